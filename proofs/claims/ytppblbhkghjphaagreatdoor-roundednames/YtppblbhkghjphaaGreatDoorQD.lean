/- Package mul: apart. -/
import Derived.Test.YtppblbhkghjphaaGreatDoorQC
import Derived.Laws.IdiomCopy
namespace Go.Proofs.YtppblbhkghjphaaGreatDoor
open Go.RowKit
open Lm

theorem sizeU : (Tryz.prog.info? 32).map (·.size) = some 1 := by kernel_rfl

/-- 'copy' of limbs into a piece. -/
theorem copy_run (bz zo n cap : Nat) (Z : List Nat) (a1 : Option Addr) (c1 : Nat) (X : List Nat) (w : World) (ty : TypeId) (hB : Blk w bz Z) (hz : zo + n ≤ Z.length) (hl : Lies w a1 X) (hX : X.length ≤ n) :
    (Builtin.copy_ #[24, 24] ty #[.slice (some ⟨bz, zo, none⟩) n cap, .slice a1 X.length c1]).run Tryz.prog w = .ok (.int .i64 (X.length : Int)) (w.setCells bz zo (X.map lv)) := by
  rcases hl with rfl | ⟨b, off, rfl, hc⟩
  · rw [run_copy_none w _ _ ty _ _ _ _ _ _ _ Tryz.underlying24 sizeU (by simp)]
    rfl
  · have hm : (X.map lv).length = Nat.min X.length n := by
      rw [List.length_map]; exact (Nat.min_eq_left hX).symm
    rw [run_copy_cells w _ _ ty _ bz zo n cap ⟨b, off, none⟩ X.length c1 (X.map lv) Tryz.underlying24 sizeU hm ?_ ?_ ?_ ?_]
    · rw [List.length_map]; rfl
    · intro j v hv
      rw [List.getElem?_map] at hv
      have hj : j < X.length := by
        refine Nat.lt_of_not_le fun hle => ?_
        rw [List.getElem?_eq_none hle] at hv; cases hv
      rw [List.getElem?_eq_getElem hj] at hv
      have := hc j hj
      rw [show (⟨b, off, none⟩ : Addr).add j = ⟨b, off + j, none⟩ by simp [Addr.add], this, ← hv]
      simp [lv, List.getD, hj]
    · intro j hj
      rw [List.length_map] at hj
      rw [hB.cell (zo + j) (by omega)]; rfl
    · intro j _
      exact hB.free (zo + j)
    · intro v hv
      obtain ⟨z, _, rfl⟩ := List.mem_map.1 hv
      rfl

theorem clear_none (ad : Option Addr) (c : Nat) (w : World) (ty : TypeId) : (Builtin.clear_ #[24] ty #[.slice ad 0 c]).run Tryz.prog w = .ok (.tuple #[]) w := by
  cases ad <;> simp [Builtin.clear_, run_underlying Tryz.underlying24]

/-- What 'apart' does. -/
def ApartDone (bz zo n : Nat) (Z : List Nat) (w : World) (x y : Nat) (e : Ending) (w' : World) : Prop :=
  e = .returned (.bool (decide (x < y))) ∧ ∃ Z' : List Nat, Out Z Z' zo (zo + n) ∧ Limbs Z' ∧ Blk w' bz Z' ∧ Fr bz w w' ∧ sv Z' zo n = (if x < y then y - x else x - y)

theorem Fr.same {bz : Nat} {w w' : World} (h : Same w w') : Fr bz w w' := Fr.of_below (h.below _)

set_option maxHeartbeats 1000000 in
theorem apart_any (bz zo n cap : Nat) (Z : List Nat) (va vb : Value) (X Y : List Nat) (w : World) (hB : Blk w bz Z) (hLZ : Limbs Z) (hA : Arg w va X) (hA2 : Arg w vb Y)
    (ho : Off va bz zo (zo + n)) (ho2 : Off vb bz zo (zo + n)) (hzo : zo + n ≤ Z.length) (hc1 : n ≤ cap) (hc2 : cap ≤ 9223372036854775807) (hfX : val X < 18446744073709551616 ^ n) (hfY : val Y < 18446744073709551616 ^ n) :
    Calls Tryz.prog 135 #[.slice (some ⟨bz, zo, none⟩) n cap, va, vb] w (ApartDone bz zo n Z w (val X) (val Y)) := by
  have HC := compare_any va vb X Y w hA hA2
  obtain ⟨a1, c1, rfl, _⟩ := hA.form
  obtain ⟨a2, c2, rfl, _⟩ := hA2.form
  by_cases hlt : val X < val Y
  · rw [cmpN_lt hlt] at HC
    have hPQ : val X ≤ val Y := by omega
    have HLT := hide hlt
    go_enter Tryz.func135, Tryz.ntmps135
    go_wp2_with fail
    clear hlt
    have hfP := hfY
    have APP := hA2
    have AQQ := hA
    have hoP := ho2
    have hoQ := ho
    clear hA hA2 ho ho2 hfX hfY
    refine HC.mono ?_
    rintro e w1 ⟨rfl, hs⟩
    have hbl := hs.below w.heap.size
    have hB1 : Blk w1 bz Z := by unfold Blk; rw [hbl.block bz hB.lt]; exact hB
    have A1 := APP.below hbl
    have A2 := AQQ.below hbl
    have F1 := hide (Fr.same (bz := bz) hs)
    obtain ⟨b1, k1, e1, hcc1, hcm1, hl1⟩ := A1.form
    have HT := mtrim_any b1 k1 Y w1 hcc1 hcm1 hl1
    have hle := tr_length_le Y
    have hln := tr_len_lt Y n hfP
    have hcp := fun ty => copy_run bz zo n cap Z b1 k1 (tr Y) w1 ty hB1 hzo hl1.tr hln
    have hO2 := lay_out (tr Y) Z zo
    have hS2 := lay_sv (tr Y) Z zo (by omega)
    have hL2 := lay_limbs (tr Y) (limbs_tr A1.limbs) Z zo hLZ
    have hB2 := Blk.setCells (tr Y) zo hB1
    have hF2 := (Fr.refl bz w1).setCells ((tr Y).map lv) zo
    cases e1
    rw [val_tr] at hS2
    generalize tr Y = T at *
    obtain ⟨w2, hw2⟩ : ∃ w2, w2 = w1.setCells bz zo (T.map lv) := ⟨_, rfl⟩
    rw [← hw2] at hB2 hF2 hcp
    clear hw2
    generalize lay Z zo T = Z2 at *
    obtain ⟨w3, Z3, hrun, hO3, hL3, hB3, hF3, hS3⟩ : ∃ (w3 : World) (Z3 : List Nat), (∀ ty, (Builtin.clear_ #[24] ty #[.slice (if cap = T.length then some ⟨bz, zo, none⟩ else some ⟨bz, zo + T.length, none⟩) (n - T.length) (cap - T.length)]).run Tryz.prog w2 = .ok (.tuple #[]) w3) ∧ Out Z Z3 zo (zo + n) ∧ Limbs Z3 ∧ Blk w3 bz Z3 ∧ Fr bz w1 w3 ∧ sv Z3 zo n = val Y := by
      have hlen2 := hO2.len
      rcases Nat.eq_zero_or_pos (n - T.length) with h0 | h0
      · refine ⟨w2, Z2, fun ty => ?_, hO2.wider (Nat.le_refl _) (by omega), hL2, hB2, hF2, ?_⟩
        · rw [h0]; exact clear_none _ _ _ _
        · rw [show n = T.length by omega]; exact hS2
      · have hcne : ¬ cap = T.length := by omega
        have hlr : (List.replicate (n - T.length) 0).length = n - T.length := by simp
        have e1 := lay_out (List.replicate (n - T.length) 0) Z2 (zo + T.length)
        have e2 := lay_sv (List.replicate (n - T.length) 0) Z2 (zo + T.length) (by rw [hlr]; omega)
        rw [hlr] at e1 e2
        refine ⟨_, lay Z2 (zo + T.length) (List.replicate (n - T.length) 0), fun ty => by rw [if_neg hcne]; exact clear_run bz (zo + T.length) _ _ Z2 w2 ty hB2 (by omega) h0, (hO2.wider (Nat.le_refl _) (by omega)).trans (e1.wider (by omega) (by omega)), lay_limbs _ (limbs_replicate _) _ _ hL2, Blk.setCells _ _ hB2, hF2.setCells _ _, ?_⟩
        have key : sv (lay Z2 (zo + T.length) (List.replicate (n - T.length) 0)) zo (T.length + (n - T.length)) = val Y := by
          rw [sv_split _ _ _ _ (by rw [lay_length]; omega), e2, e1.sv zo T.length (by omega), hS2, val_replicate]; simp
        rw [show T.length + (n - T.length) = n by omega] at key
        exact key
    have HM := minus_any bz zo n cap Z3 _ X w3 hB3 hL3 (A2.fr hoQ hF3 hB1 hB3 hO3) hoQ (by rw [hO3.len]; exact hzo) hc1 hc2 (by rw [hS3]; exact hPQ)
    rw [hS3] at HM
    have HO3 := hide hO3
    have HF3 := hide (F1.out.trans hF3)
    have hkn : T.length ≤ n := hln
    have hkc : T.length ≤ cap := by omega
    have k1' : (0 : Int) ≤ (T.length : Int) := by omega
    have k2' : (T.length : Int) ≤ (n : Int) := by omega
    clear hB1 A1 A2 hl1 hO2 hS2 hL2 hB2 hF2 hO3 hL3 hB3 hF3 hS3 F1 hs hbl hB hLZ APP AQQ hoP hoQ
    clear HC
    by_cases hcT : cap = T.length
    · have hnT : n = T.length := by omega
      subst hnT
      subst hcT
      simp only [if_true, Nat.sub_self] at hrun
      clear hkc hkn hln hc1 k2' hfP
      go_wp2_with fail
      refine HT.mono ?_
      rintro e w4 ⟨rfl, hw⟩; subst hw
      clear HT
      go_wp2_with fail
      refine HM.mono ?_
      rintro e w5 ⟨rfl, Z', q1, q2, q3, q4, q5⟩
      have HD := hide (And.intro (HO3.out.trans q1) (And.intro q2 (And.intro q3 (And.intro (HF3.out.trans q4) q5))))
      clear q1 q2 q3 q4 q5 HM hcp hrun
      go_wp2
      go_ret
      obtain ⟨q1, q2, q3, q4, q5⟩ := HD.out
      have hlt := HLT.out
      exact ⟨by simp [hlt], Z', q1, q2, q3, q4, by rw [if_pos hlt]; exact q5⟩
    · simp only [hcT, if_false] at hrun
      go_wp2_with fail
      refine HT.mono ?_
      rintro e w4 ⟨rfl, hw⟩; subst hw
      clear HT
      go_wp2_with fail
      refine HM.mono ?_
      rintro e w5 ⟨rfl, Z', q1, q2, q3, q4, q5⟩
      have HD := hide (And.intro (HO3.out.trans q1) (And.intro q2 (And.intro q3 (And.intro (HF3.out.trans q4) q5))))
      clear q1 q2 q3 q4 q5 HM hcp hrun
      go_wp2
      go_ret
      obtain ⟨q1, q2, q3, q4, q5⟩ := HD.out
      have hlt := HLT.out
      exact ⟨by simp [hlt], Z', q1, q2, q3, q4, by rw [if_pos hlt]; exact q5⟩
  · have hc : decide (cmpN (val X) (val Y) < 0) = false := by
      unfold cmpN; rw [if_neg hlt]; split <;> decide
    have hPQ : val Y ≤ val X := by omega
    have HLT := hide hlt
    generalize cmpN (val X) (val Y) = cc at *
    go_enter Tryz.func135, Tryz.ntmps135
    go_wp2_with fail
    clear hlt
    have hfP := hfX
    have APP := hA
    have AQQ := hA2
    have hoP := ho
    have hoQ := ho2
    clear hA hA2 ho ho2 hfX hfY
    refine HC.mono ?_
    rintro e w1 ⟨rfl, hs⟩
    have hbl := hs.below w.heap.size
    have hB1 : Blk w1 bz Z := by unfold Blk; rw [hbl.block bz hB.lt]; exact hB
    have A1 := APP.below hbl
    have A2 := AQQ.below hbl
    have F1 := hide (Fr.same (bz := bz) hs)
    obtain ⟨b1, k1, e1, hcc1, hcm1, hl1⟩ := A1.form
    have HT := mtrim_any b1 k1 X w1 hcc1 hcm1 hl1
    have hle := tr_length_le X
    have hln := tr_len_lt X n hfP
    have hcp := fun ty => copy_run bz zo n cap Z b1 k1 (tr X) w1 ty hB1 hzo hl1.tr hln
    have hO2 := lay_out (tr X) Z zo
    have hS2 := lay_sv (tr X) Z zo (by omega)
    have hL2 := lay_limbs (tr X) (limbs_tr A1.limbs) Z zo hLZ
    have hB2 := Blk.setCells (tr X) zo hB1
    have hF2 := (Fr.refl bz w1).setCells ((tr X).map lv) zo
    cases e1
    rw [val_tr] at hS2
    generalize tr X = T at *
    obtain ⟨w2, hw2⟩ : ∃ w2, w2 = w1.setCells bz zo (T.map lv) := ⟨_, rfl⟩
    rw [← hw2] at hB2 hF2 hcp
    clear hw2
    generalize lay Z zo T = Z2 at *
    obtain ⟨w3, Z3, hrun, hO3, hL3, hB3, hF3, hS3⟩ : ∃ (w3 : World) (Z3 : List Nat), (∀ ty, (Builtin.clear_ #[24] ty #[.slice (if cap = T.length then some ⟨bz, zo, none⟩ else some ⟨bz, zo + T.length, none⟩) (n - T.length) (cap - T.length)]).run Tryz.prog w2 = .ok (.tuple #[]) w3) ∧ Out Z Z3 zo (zo + n) ∧ Limbs Z3 ∧ Blk w3 bz Z3 ∧ Fr bz w1 w3 ∧ sv Z3 zo n = val X := by
      have hlen2 := hO2.len
      rcases Nat.eq_zero_or_pos (n - T.length) with h0 | h0
      · refine ⟨w2, Z2, fun ty => ?_, hO2.wider (Nat.le_refl _) (by omega), hL2, hB2, hF2, ?_⟩
        · rw [h0]; exact clear_none _ _ _ _
        · rw [show n = T.length by omega]; exact hS2
      · have hcne : ¬ cap = T.length := by omega
        have hlr : (List.replicate (n - T.length) 0).length = n - T.length := by simp
        have e1 := lay_out (List.replicate (n - T.length) 0) Z2 (zo + T.length)
        have e2 := lay_sv (List.replicate (n - T.length) 0) Z2 (zo + T.length) (by rw [hlr]; omega)
        rw [hlr] at e1 e2
        refine ⟨_, lay Z2 (zo + T.length) (List.replicate (n - T.length) 0), fun ty => by rw [if_neg hcne]; exact clear_run bz (zo + T.length) _ _ Z2 w2 ty hB2 (by omega) h0, (hO2.wider (Nat.le_refl _) (by omega)).trans (e1.wider (by omega) (by omega)), lay_limbs _ (limbs_replicate _) _ _ hL2, Blk.setCells _ _ hB2, hF2.setCells _ _, ?_⟩
        have key : sv (lay Z2 (zo + T.length) (List.replicate (n - T.length) 0)) zo (T.length + (n - T.length)) = val X := by
          rw [sv_split _ _ _ _ (by rw [lay_length]; omega), e2, e1.sv zo T.length (by omega), hS2, val_replicate]; simp
        rw [show T.length + (n - T.length) = n by omega] at key
        exact key
    have HM := minus_any bz zo n cap Z3 _ Y w3 hB3 hL3 (A2.fr hoQ hF3 hB1 hB3 hO3) hoQ (by rw [hO3.len]; exact hzo) hc1 hc2 (by rw [hS3]; exact hPQ)
    rw [hS3] at HM
    have HO3 := hide hO3
    have HF3 := hide (F1.out.trans hF3)
    have hkn : T.length ≤ n := hln
    have hkc : T.length ≤ cap := by omega
    have k1' : (0 : Int) ≤ (T.length : Int) := by omega
    have k2' : (T.length : Int) ≤ (n : Int) := by omega
    clear hB1 A1 A2 hl1 hO2 hS2 hL2 hB2 hF2 hO3 hL3 hB3 hF3 hS3 F1 hs hbl hB hLZ APP AQQ hoP hoQ
    clear HC
    by_cases hcT : cap = T.length
    · have hnT : n = T.length := by omega
      subst hnT
      subst hcT
      simp only [if_true, Nat.sub_self] at hrun
      clear hkc hkn hln hc1 k2' hfP
      go_wp2_with fail
      refine HT.mono ?_
      rintro e w4 ⟨rfl, hw⟩; subst hw
      clear HT
      go_wp2_with fail
      refine HM.mono ?_
      rintro e w5 ⟨rfl, Z', q1, q2, q3, q4, q5⟩
      have HD := hide (And.intro (HO3.out.trans q1) (And.intro q2 (And.intro q3 (And.intro (HF3.out.trans q4) q5))))
      clear q1 q2 q3 q4 q5 HM hcp hrun
      go_wp2
      go_ret
      obtain ⟨q1, q2, q3, q4, q5⟩ := HD.out
      have hlt := HLT.out
      exact ⟨by simp [hlt], Z', q1, q2, q3, q4, by rw [if_neg hlt]; exact q5⟩
    · simp only [hcT, if_false] at hrun
      go_wp2_with fail
      refine HT.mono ?_
      rintro e w4 ⟨rfl, hw⟩; subst hw
      clear HT
      go_wp2_with fail
      refine HM.mono ?_
      rintro e w5 ⟨rfl, Z', q1, q2, q3, q4, q5⟩
      have HD := hide (And.intro (HO3.out.trans q1) (And.intro q2 (And.intro q3 (And.intro (HF3.out.trans q4) q5))))
      clear q1 q2 q3 q4 q5 HM hcp hrun
      go_wp2
      go_ret
      obtain ⟨q1, q2, q3, q4, q5⟩ := HD.out
      have hlt := HLT.out
      exact ⟨by simp [hlt], Z', q1, q2, q3, q4, by rw [if_neg hlt]; exact q5⟩

end Go.Proofs.YtppblbhkghjphaaGreatDoor

/- Package mul: plusTimes. -/
namespace Go.Proofs.YtppblbhkghjphaaGreatDoor
open Go.RowKit
open Lm
attribute [local go_sem ↓] Go.wp_at_zero Go.wp_at_succ

theorem carry_limb (z cy : Nat) (hz : z < 18446744073709551616) (hc : cy < 18446744073709551616) :
    (z + 0 + cy) % 18446744073709551616 + (z + 0 + cy) / 18446744073709551616 * 18446744073709551616 = z + 0 + cy ∧ (z + 0 + cy) / 18446744073709551616 < 18446744073709551616 ∧ (z + 0 + cy) % 18446744073709551616 < 18446744073709551616 := by
  omega

theorem Off.less {v : Value} {bz lo hi hi' : Nat} (h : Off v bz lo hi) (hh : hi' ≤ hi) : Off v bz lo hi' := fun b off n c e => by
  rcases h b off n c e with h1 | h1 | h1
  · exact .inl h1
  · exact .inr (.inl h1)
  · exact .inr (.inr (by omega))

set_option maxHeartbeats 1000000 in
theorem plusTimes_any (bz zo n cap : Nat) (Z : List Nat) (va : Value) (X : List Nat) (m : Nat) (w : World) (hB : Blk w bz Z) (hLZ : Limbs Z) (hA : Arg w va X) (ho : Off va bz zo (zo + n)) (hXn : X.length ≤ n)
    (hzo : zo + n ≤ Z.length) (hc1 : n ≤ cap) (hc2 : cap ≤ 9223372036854775807) (hm : m < 18446744073709551616) (hfit : sv Z zo n + val X * m < 18446744073709551616 ^ n) :
    Calls Tryz.prog 137 #[.slice (some ⟨bz, zo, none⟩) n cap, va, .int .u64 m] w (IntoDone bz zo n Z w (sv Z zo n + val X * m)) := by
  have HM := addTimes_any bz zo cap Z va X m w hB hLZ hA (ho.less (by omega)) (by omega) (by omega) hc2 hm
  obtain ⟨a1, c1, rfl, hcc1, hcm1, _⟩ := hA.form
  have HFIT := hide hfit
  clear hfit hA ho hB hLZ
  generalize val X * m = V at *
  have k1 : (X.length : Int) ≤ (n : Int) := by omega
  have k2 : X.length ≤ cap := by omega
  go_enter Tryz.func137, Tryz.ntmps137
  go_wp2_with fail
  refine HM.mono ?_
  rintro e w1 ⟨cy, Z1, rfl, hcy, hout, hlz, hblk, hfr0, hval⟩
  have HV := hide hval
  have HB := hide hblk
  have HF := hide hfr0
  have HO := hide hout
  clear hval hblk hfr0 hout HM
  go_wp2
  go_loopw [6, 7] (fun c i wr2 => ∃ (k cy : Nat) (Z2 : List Nat), k ≤ n ∧ i = .int .i64 k ∧ c = .int .u64 cy ∧ cy < 18446744073709551616 ∧ Out Z Z2 zo (zo + k) ∧ Limbs Z2 ∧ Blk wr2 bz Z2 ∧ Fr bz w wr2 ∧
      sv Z2 zo k + cy * 18446744073709551616 ^ k = sv Z zo k + V) (fun _ i _ => n - (intOf i).toNat)
  case atStart => exact ⟨X.length, cy, Z1, hXn, rfl, rfl, hcy, HO.out, hlz, HB.out, HF.out, HV.out⟩
  case round =>
    obtain ⟨k, cy2, Z2, hk2, rfl, rfl, hcy2, hout2, hlz2, hblk2, hfr2, hval2⟩ := hrel
    clear HV HB HF HO
    have HV := hide hval2
    have HB := hide hblk2
    have HF := hide hfr2
    have HO := hide hout2
    have hl := hout2.len
    clear hval2
    by_cases hc0 : cy2 = 0
    · subst hc0
      have HR := hide (seg_rest Z Z2 zo k n _ hk2 hzo hout2 (by have h := HV.out; rw [Nat.zero_mul, Nat.add_zero] at h; exact h))
      clear hblk2 hfr2 hout2 HV
      go_wp2
      go_end0
      exact ⟨rfl, Z2, HO.out.wider (Nat.le_refl _) (by omega), hlz2, HB.out, HF.out, HR.out⟩
    · have hpos : (0 : Int) < (cy2 : Int) := by omega
      have hkn : k < n := by
        rcases Nat.lt_or_ge k n with h | h
        · exact h
        · have ek : k = n := by omega
          subst ek
          exact absurd (seg_no_carry Z Z2 zo k cy2 V HFIT.out HV.out) hc0
      have hfr := hblk2.free (zo + k)
      have hco := hblk2.cell (zo + k) (by omega)
      have z2 := limb_lt hlz2 (zo + k)
      have hsame := hout2.same (zo + k) (by omega)
      have ha := add64_0 (Z2.getD (zo + k) 0) cy2
      obtain ⟨q1, q2, q3⟩ := carry_limb (Z2.getD (zo + k) 0) cy2 z2 hcy2
      have HS := hide (seg_add_step Z Z2 zo k cy2 _ _ 0 _ (by omega) hl HV.out (by rw [← hsame]; exact q1))
      rw [Nat.mul_zero, Nat.add_zero] at HS
      rw [Nat.add_zero] at HS q2 q3
      generalize Z2.getD (zo + k) 0 = z at *
      clear hsame q1
      generalize (z + cy2) % 18446744073709551616 = s at *
      generalize (z + cy2) / 18446744073709551616 = c2 at *
      clear hblk2 hfr2 hout2 HV hc0
      go_wp2
      go_roundw
      case rel => exact ⟨k + 1, c2, Z2.set (zo + k) s, by omega, by go_num, rfl, q2, (HO.out.wider (Nat.le_refl _) (by omega)).set _ _ (by omega) (by omega), limbs_set hlz2 _ _ q3, HB.out.set _ s, HF.out.setCell _ _, HS.out⟩
      case measure => simp [intOf]; omega

end Go.Proofs.YtppblbhkghjphaaGreatDoor

/- Package mul: minusTimes. -/
namespace Go.Proofs.YtppblbhkghjphaaGreatDoor
open Go.RowKit
open Lm
attribute [local go_sem ↓] Go.wp_at_zero Go.wp_at_succ

theorem sub64_z (x y : Nat) (w : World) :
    (callFunc 65 #[.int .u64 x, .int .u64 y, .int .u64 0]).run Tryz.prog w =
      .ok (.value (.tuple #[.int .u64 (((x + 18446744073709551616 - y) % 18446744073709551616 : Nat) : Int), .int .u64 ((bor x y 0 : Nat) : Int)])) w :=
  sub64' x y 0 (by omega) w

theorem seg_sub_step' (Z Z' : List Nat) (o k cy c2 s v V : Nat) (hz : o + k < Z'.length) (hl : Z'.length = Z.length)
    (h : sv Z' o k + V = sv Z o k + cy * 18446744073709551616 ^ k) (hs : s + v + cy = Z.getD (o + k) 0 + c2 * 18446744073709551616) :
    sv (Z'.set (o + k) s) o (k + 1) + (V + 18446744073709551616 ^ k * v) = sv Z o (k + 1) + c2 * 18446744073709551616 ^ (k + 1) :=
  seg_sub_step Z Z' o k cy c2 s v V hz hl h hs

theorem minusTimes_limb (P z cy : Nat) (hP : P ≤ 340282366920938463426481119284349108225) (_hz : z < 18446744073709551616) (_hc : cy < 18446744073709551616) :
    (z + 18446744073709551616 - (P % 18446744073709551616 + cy) % 18446744073709551616) % 18446744073709551616 + P + cy = z + (P / 18446744073709551616 + (P % 18446744073709551616 + cy) / 18446744073709551616 + bor z ((P % 18446744073709551616 + cy) % 18446744073709551616) 0) * 18446744073709551616 ∧
    P / 18446744073709551616 + (P % 18446744073709551616 + cy) / 18446744073709551616 < 18446744073709551616 ∧
    P / 18446744073709551616 + (P % 18446744073709551616 + cy) / 18446744073709551616 + bor z ((P % 18446744073709551616 + cy) % 18446744073709551616) 0 < 18446744073709551616 ∧
    (z + 18446744073709551616 - (P % 18446744073709551616 + cy) % 18446744073709551616) % 18446744073709551616 < 18446744073709551616 := by
  unfold bor
  split <;> omega

theorem borrow_limb (z cy : Nat) (hz : z < 18446744073709551616) (hc : cy < 18446744073709551616) :
    (z + 18446744073709551616 - cy) % 18446744073709551616 + 0 + cy = z + bor z cy 0 * 18446744073709551616 ∧ bor z cy 0 < 18446744073709551616 ∧ (z + 18446744073709551616 - cy) % 18446744073709551616 < 18446744073709551616 := by
  unfold bor
  split <;> omega

set_option maxHeartbeats 1000000 in
theorem minusTimes_any (bz zo n cap : Nat) (Z : List Nat) (va : Value) (X : List Nat) (m : Nat) (w : World) (hB : Blk w bz Z) (hLZ : Limbs Z) (hA : Arg w va X) (ho : Off va bz zo (zo + n))
    (hzo : zo + n ≤ Z.length) (hc1 : n ≤ cap) (hc2 : cap ≤ 9223372036854775807) (hm0 : 0 < m) (hm : m < 18446744073709551616) (hfit : val X * m ≤ sv Z zo n) :
    Calls Tryz.prog 133 #[.slice (some ⟨bz, zo, none⟩) n cap, va, .int .u64 m] w (IntoDone bz zo n Z w (sv Z zo n - val X * m)) := by
  obtain ⟨a1, c1, rfl, hcc1, hcm1, hl1⟩ := hA.form
  have hX := hA.few
  have H1 := mtrim_any a1 c1 X w hcc1 hcm1 hl1
  have M1 := limbs_tr hA.limbs
  have hle := tr_length_le X
  have hln := tr_len_lt X n (Nat.lt_of_le_of_lt (Nat.le_trans (Nat.le_mul_of_pos_right _ hm0) hfit) (sv_lt hLZ zo n))
  have hao : ∀ b off, a1 = some ⟨b, off, none⟩ → b ≠ bz ∨ off + (tr X).length ≤ zo ∨ zo + n ≤ off := fun b off e => by
    subst e
    rcases ho b off _ _ rfl with h | h | h
    · exact .inl h
    · exact .inr (.inl (by omega))
    · exact .inr (.inr h)
  have L1 := hl1.tr
  rw [← val_tr X] at hfit ⊢
  clear ho hA hl1
  generalize tr X = P at *
  have HFIT := hide hfit
  have HB0 := hide hB
  have HLZ := hide hLZ
  clear hfit
  go_enter Tryz.func133, Tryz.ntmps133
  go_wp2_with fail
  refine H1.mono ?_
  rintro e w' ⟨rfl, hw⟩; subst hw
  clear H1
  go_wp2
  go_loopw [6, 18] (fun c i wr => ∃ (k cy : Nat) (Z' : List Nat), k ≤ P.length ∧ i = .int .i64 k ∧ c = .int .u64 cy ∧ cy < 18446744073709551616 ∧ Out Z Z' zo (zo + k) ∧ Limbs Z' ∧ Blk wr bz Z' ∧ Fr bz w' wr ∧
      sv Z' zo k + val (P.take k) * m = sv Z zo k + cy * 18446744073709551616 ^ k) (fun _ i _ => P.length - (intOf i).toNat)
  case atStart => exact ⟨0, 0, Z, Nat.zero_le _, rfl, rfl, by omega, Out.refl _ _ _, HLZ.out, HB0.out, Fr.refl _ _, by simp [sv_zero, val]⟩
  case round =>
    obtain ⟨k, cy, Z', hk, rfl, rfl, hcy, hout, hlz, hblk, hfr0, hval⟩ := hrel
    have HV := hide hval
    have HB := hide hblk
    have HF := hide hfr0
    have HO := hide hout
    have hl := hout.len
    clear hval
    by_cases hkl : k < P.length
    · rcases L1.fr hao hfr0 hB hblk (hout.wider (Nat.le_refl _) (by omega)) with h0 | ⟨b, off, rfl, hcell⟩
      · rw [h0] at hkl; simp at hkl
      · have hck := hcell k hkl
        have hfr := hblk.free (zo + k)
        have hco := hblk.cell (zo + k) (by omega)
        have z1 := limb_lt M1 k
        have z2 := limb_lt hlz (zo + k)
        have hsame := hout.same (zo + k) (by omega)
        have hft := minusTimes_limb (P.getD k 0 * m) (Z'.getD (zo + k) 0) cy (by have := Nat.mul_le_mul (Nat.le_sub_one_of_lt z1) (Nat.le_sub_one_of_lt hm); omega) z2 hcy
        have HS := hide (fun c2 s hs => seg_sub_step' Z Z' zo k cy c2 s (P.getD k 0 * m) _ (by omega) hl HV.out hs)
        rw [← hsame] at HS
        have hst : val (P.take k) * m + 18446744073709551616 ^ k * (P.getD k 0 * m) = val (P.take (k + 1)) * m := by
          rw [val_take_next P k, Nat.add_mul, Nat.mul_assoc]
        rw [hst] at HS
        have ha1 := add64_0 (P.getD k 0 * m % 18446744073709551616) cy
        have ha2 := sub64_z (Z'.getD (zo + k) 0) ((P.getD k 0 * m % 18446744073709551616 + cy) % 18446744073709551616)
        have hM := Tryz.bits_Mul64 (P.getD k 0) m z1 hm wr
        generalize Z'.getD (zo + k) 0 = z at *
        generalize P.getD k 0 = x at *
        generalize hPP : x * m = PP at *
        clear hPP hsame hst
        obtain ⟨q1, q2, q3, q4⟩ := hft
        have HS2 := hide (HS.out _ _ q1)
        clear HS q1
        generalize (z + 18446744073709551616 - (PP % 18446744073709551616 + cy) % 18446744073709551616) % 18446744073709551616 = s at *
        generalize bor z ((PP % 18446744073709551616 + cy) % 18446744073709551616) 0 = un at *
        generalize (PP % 18446744073709551616 + cy) % 18446744073709551616 = l2 at *
        generalize (PP % 18446744073709551616 + cy) / 18446744073709551616 = o1 at *
        generalize PP / 18446744073709551616 = h1 at *
        generalize PP % 18446744073709551616 = l1 at *
        have e1 : (h1 : Int) + (o1 : Int) = ((h1 + o1 : Nat) : Int) := by omega
        generalize h1 + o1 = h2 at *
        have e2 : (h2 : Int) + (un : Int) = ((h2 + un : Nat) : Int) := by omega
        generalize h2 + un = c2 at *
        clear hcell hblk hfr0 hout HV M1 L1 hB hLZ
        go_wp2_with fail
        refine hM.mono ?_
        rintro e w2 ⟨rfl, rfl⟩
        clear hM
        go_wp2
        go_roundw
        case rel => exact ⟨k + 1, c2, Z'.set (zo + k) s, by omega, by go_num, rfl, q3, (HO.out.wider (Nat.le_refl _) (by omega)).set _ _ (by omega) (by omega), limbs_set hlz _ _ q4, HB.out.set _ s, HF.out.setCell _ _, HS2.out⟩
        case measure => simp [intOf]; omega
    · have ek : k = P.length := by omega
      subst ek
      rw [List.take_length] at HV
      clear hblk hfr0 hout L1 hB M1 hLZ hl
      go_wp2
      go_loopw [6, 13] (fun c i wr2 => ∃ (k cy : Nat) (Z2 : List Nat), k ≤ n ∧ i = .int .i64 k ∧ c = .int .u64 cy ∧ cy < 18446744073709551616 ∧ Out Z Z2 zo (zo + k) ∧ Limbs Z2 ∧ Blk wr2 bz Z2 ∧ Fr bz w' wr2 ∧
          sv Z2 zo k + val P * m = sv Z zo k + cy * 18446744073709551616 ^ k) (fun _ i _ => n - (intOf i).toNat)
      case atStart => exact ⟨P.length, cy, Z', hln, rfl, rfl, hcy, HO.out, hlz, HB.out, HF.out, HV.out⟩
      case round =>
        obtain ⟨k, cy2, Z2, hk2, rfl, rfl, hcy2, hout2, hlz2, hblk2, hfr2, hval2⟩ := hrel
        clear HV HB HF HO
        have HV := hide hval2
        have HB := hide hblk2
        have HF := hide hfr2
        have HO := hide hout2
        have hl := hout2.len
        clear hval2
        by_cases hc0 : cy2 = 0
        · subst hc0
          have HR := hide (seg_rest_sub Z Z2 zo k n _ hk2 hzo hout2 (by have h := HV.out; rw [Nat.zero_mul, Nat.add_zero] at h; exact h))
          clear hblk2 hfr2 hout2 HV
          go_wp2
          go_end0
          exact ⟨rfl, Z2, HO.out.wider (Nat.le_refl _) (by omega), hlz2, HB.out, HF.out, HR.out⟩
        · have hpos : (0 : Int) < (cy2 : Int) := by omega
          have hkn : k < n := by
            rcases Nat.lt_or_ge k n with h | h
            · exact h
            · have ek : k = n := by omega
              subst ek
              exact absurd (seg_no_borrow Z Z2 zo k cy2 (val P * m) hlz2 HFIT.out HV.out) hc0
          have hfr := hblk2.free (zo + k)
          have hco := hblk2.cell (zo + k) (by omega)
          have z2 := limb_lt hlz2 (zo + k)
          have hsame := hout2.same (zo + k) (by omega)
          have ha := sub64_z (Z2.getD (zo + k) 0) cy2
          obtain ⟨q1, q2, q3⟩ := borrow_limb (Z2.getD (zo + k) 0) cy2 z2 hcy2
          have HS := hide (seg_sub_step Z Z2 zo k cy2 _ _ 0 _ (by omega) hl HV.out (by rw [← hsame]; exact q1))
          rw [Nat.mul_zero, Nat.add_zero] at HS
          generalize Z2.getD (zo + k) 0 = z at *
          clear hsame q1
          generalize (z + 18446744073709551616 - cy2) % 18446744073709551616 = s at *
          generalize bor z cy2 0 = c2 at *
          clear hblk2 hfr2 hout2 HV hc0
          go_wp2
          go_roundw
          case rel => exact ⟨k + 1, c2, Z2.set (zo + k) s, by omega, by go_num, rfl, q2, (HO.out.wider (Nat.le_refl _) (by omega)).set _ _ (by omega) (by omega), limbs_set hlz2 _ _ q3, HB.out.set _ s, HF.out.setCell _ _, HS.out⟩
          case measure => simp [intOf]; omega

end Go.Proofs.YtppblbhkghjphaaGreatDoor

/- Package mul: halfOf. -/
namespace Go.Proofs.YtppblbhkghjphaaGreatDoor
open Go.RowKit
open Lm
attribute [local go_sem ↓] Go.wp_at_zero Go.wp_at_succ

theorem half_or (v r : Nat) (hv : v < 18446744073709551616) (hr : r < 2) : bits BinOp.or IntKind.u64 ((v : Int) / 2) ((r * 9223372036854775808 : Nat) : Int) = ((v / 2 + r * 9223372036854775808 : Nat) : Int) := by
  have h := walk_shr2 v r 1 (by omega) hv
  have e1 : IntKind.u64.wrap ((r : Int) * 2 ^ (64 - 1)) = ((r * 9223372036854775808 : Nat) : Int) := by
    rw [IntKind.wrap_u64, show (2 : Int) ^ (64 - 1) = 9223372036854775808 by decide]
    omega
  rw [e1, show (2 : Int) ^ 1 = 2 by decide] at h
  rw [h]
  unfold shr
  rw [show (2 : Nat) ^ 1 = 2 by decide, show (2 : Nat) ^ (64 - 1) = 9223372036854775808 by decide, Nat.mod_eq_of_lt hr]

theorem half_step (v S : Nat) : v / 2 + S % 2 * 9223372036854775808 + 18446744073709551616 * (S / 2) = (v + 18446744073709551616 * S) / 2 ∧ (v + 18446744073709551616 * S) % 2 = v % 2 := by
  omega

/-- The piece from one limb on. -/
theorem sv_cons (Z : List Nat) (o j n : Nat) (h : o + j < Z.length) (hj : j < n) : sv Z (o + j) (n - j) = Z.getD (o + j) 0 + 18446744073709551616 * sv Z (o + (j + 1)) (n - (j + 1)) := by
  rw [show n - j = 1 + (n - (j + 1)) by omega, sv_split _ _ _ _ (by omega), sv_one _ _ h, Nat.pow_one, ← Nat.add_assoc]

set_option maxHeartbeats 400000 in
theorem halfOf_any (bz zo n cap : Nat) (Z : List Nat) (w : World) (hB : Blk w bz Z) (hLZ : Limbs Z) (hzo : zo + n ≤ Z.length) (hc1 : n ≤ cap) (hc2 : cap ≤ 9223372036854775807) :
    Calls Tryz.prog 131 #[.slice (some ⟨bz, zo, none⟩) n cap] w (IntoDone bz zo n Z w (sv Z zo n / 2)) := by
  have HB0 := hide hB
  have HLZ := hide hLZ
  clear hB
  go_enter Tryz.func131, Tryz.ntmps131
  go_wp2
  go_loopw [2, 3] (fun c i wr => ∃ (k : Nat) (Z' : List Nat), k ≤ n ∧ i = .int .i64 ((k : Int) - 1) ∧ c = .int .u64 ((sv Z (zo + k) (n - k) % 2 * 9223372036854775808 : Nat) : Int) ∧ Out Z Z' (zo + k) (zo + n) ∧ Limbs Z' ∧ Blk wr bz Z' ∧ Fr bz w wr ∧
      sv Z' (zo + k) (n - k) = sv Z (zo + k) (n - k) / 2) (fun _ i _ => (intOf i + 1).toNat)
  case atStart => exact ⟨n, Z, Nat.le_refl _, rfl, by rw [Nat.sub_self, sv_zero]; rfl, Out.refl _ _ _, HLZ.out, HB0.out, Fr.refl _ _, by rw [Nat.sub_self, sv_zero]⟩
  case round =>
    obtain ⟨k, Z', hk, rfl, rfl, hout, hlz, hblk, hfr0, hval⟩ := hrel
    have hl := hout.len
    by_cases hk0 : k = 0
    · subst hk0
      rw [Nat.add_zero, Nat.sub_zero] at hval
      have HD : Hid (Out Z Z' zo (zo + n) ∧ Limbs Z' ∧ Blk wr bz Z' ∧ Fr bz w wr ∧ sv Z' zo n = sv Z zo n / 2) := hide ⟨by simpa using hout, hlz, hblk, hfr0, hval⟩
      generalize sv Z (zo + 0) (n - 0) % 2 * 9223372036854775808 = cy at *
      clear hout hlz hblk hfr0 hval
      go_wp2
      go_end0
      exact ⟨rfl, Z', HD.out⟩
    · obtain ⟨j, rfl⟩ : ∃ j, k = j + 1 := ⟨k - 1, by omega⟩
      have hcons := sv_cons Z zo j n (by omega) (by omega)
      have hcons' : ∀ s, sv (Z'.set (zo + j) s) (zo + j) (n - j) = s + 18446744073709551616 * sv Z' (zo + (j + 1)) (n - (j + 1)) := fun s => by
        rw [sv_cons (Z'.set (zo + j) s) zo j n (by simp; omega) (by omega), getD_set, if_pos ⟨rfl, by omega⟩]
        have e : Out Z' (Z'.set (zo + j) s) (zo + j) (zo + (j + 1)) := (Out.refl _ _ _).set _ _ (by omega) (by omega)
        rw [e.sv (zo + (j + 1)) (n - (j + 1)) (by omega)]
      have hsame := hout.same (zo + j) (by omega)
      have hfr := hblk.free (zo + j)
      have hco := hblk.cell (zo + j) (by omega)
      have z2 := limb_lt HLZ.out (zo + j)
      rw [hsame] at hco
      have hst := half_step (Z.getD (zo + j) 0) (sv Z (zo + (j + 1)) (n - (j + 1)))
      rw [← hcons] at hst
      have hor := half_or (Z.getD (zo + j) 0) (sv Z (zo + (j + 1)) (n - (j + 1)) % 2) z2 (Nat.mod_lt _ (by omega))
      have HS := hide (hcons' (Z.getD (zo + j) 0 / 2 + sv Z (zo + (j + 1)) (n - (j + 1)) % 2 * 9223372036854775808))
      rw [hval, hst.1] at HS
      have HM := hide hst.2
      have hs1 : Z.getD (zo + j) 0 / 2 + sv Z (zo + (j + 1)) (n - (j + 1)) % 2 * 9223372036854775808 < 18446744073709551616 := by
        have := Nat.mod_lt (sv Z (zo + (j + 1)) (n - (j + 1))) (show 0 < 2 by omega)
        omega
      clear hst hcons hcons' hsame hval
      generalize sv Z (zo + (j + 1)) (n - (j + 1)) % 2 * 9223372036854775808 = cy at *
      generalize Z.getD (zo + j) 0 = v at *
      generalize v / 2 + cy = s at *
      have ewr : IntKind.u64.wrap ((v : Int) * 9223372036854775808) = ((v % 2 * 9223372036854775808 : Nat) : Int) := by rw [IntKind.wrap_u64]; omega
      obtain ⟨c2, hc2'⟩ : ∃ c2, c2 = v % 2 * 9223372036854775808 := ⟨_, rfl⟩
      rw [← hc2'] at ewr
      have HC2 : Hid (c2 = sv Z (zo + j) (n - j) % 2 * 9223372036854775808) := hide (by rw [hc2', HM.out])
      clear hc2' HM
      have ej : (((j + 1 : Nat) : Int) - 1) = (j : Int) := by omega
      rw [ej]
      have HB := hide hblk
      have HF := hide hfr0
      have HO := hide hout
      clear hblk hfr0 hout ej
      have hi1 : (0 : Int) ≤ (j : Int) := by omega
      have hi2 : (j : Int) < (n : Int) := by omega
      go_wp2
      go_roundw
      case rel =>
        exact ⟨j, Z'.set (zo + j) s, by omega, rfl, by rw [HC2.out], (HO.out.wider (by omega) (Nat.le_refl _)).set _ _ (Nat.le_refl _) (by omega), limbs_set hlz _ _ hs1, HB.out.set _ s, HF.out.setCell _ _, HS.out⟩
      case measure => simp [intOf]

end Go.Proofs.YtppblbhkghjphaaGreatDoor

/- Package mul: thirdOf. -/
namespace Go.Proofs.YtppblbhkghjphaaGreatDoor
open Go.RowKit
open Lm
attribute [local go_sem ↓] Go.wp_at_zero Go.wp_at_succ

theorem third_limb (v b : Nat) (hv : v < 18446744073709551616) (hb : b ≤ 2) :
    3 * ((v + 18446744073709551616 - b) % 18446744073709551616 * 12297829382473034411 % 18446744073709551616) + b = v + ((v + 18446744073709551616 - b) % 18446744073709551616 * 12297829382473034411 % 18446744073709551616 * 3 / 18446744073709551616 + bor v b 0) * 18446744073709551616 ∧
    (v + 18446744073709551616 - b) % 18446744073709551616 * 12297829382473034411 % 18446744073709551616 * 3 / 18446744073709551616 + bor v b 0 ≤ 2 ∧
    (v + 18446744073709551616 - b) % 18446744073709551616 < 18446744073709551616 := by
  have hr : (v + 18446744073709551616 - b) % 18446744073709551616 < 18446744073709551616 := Nat.mod_lt _ (by omega)
  have hsub := (borrow_limb v b hv (by omega)).1
  generalize (v + 18446744073709551616 - b) % 18446744073709551616 = r at *
  have ht : r * 12297829382473034411 % 18446744073709551616 < 18446744073709551616 := Nat.mod_lt _ (by omega)
  have h3 : r * 12297829382473034411 % 18446744073709551616 * 3 % 18446744073709551616 = r := by omega
  generalize r * 12297829382473034411 % 18446744073709551616 = t at *
  generalize bor v b 0 = u at *
  refine ⟨by omega, by omega, hr⟩

theorem third_step (Z Z' : List Nat) (o k b b2 t : Nat) (hz : o + k < Z'.length) (hl : Z'.length = Z.length) (h : 3 * sv Z' o k = sv Z o k + b * 18446744073709551616 ^ k) (hs : 3 * t + b = Z.getD (o + k) 0 + b2 * 18446744073709551616) :
    3 * sv (Z'.set (o + k) t) o (k + 1) = sv Z o (k + 1) + b2 * 18446744073709551616 ^ (k + 1) := by
  rw [sv_set_succ _ _ _ _ hz, sv_succ Z o k (by omega), show (18446744073709551616 : Nat) ^ (k + 1) = 18446744073709551616 ^ k * 18446744073709551616 from Nat.pow_succ ..]
  generalize sv Z' o k = A at *
  generalize sv Z o k = B at *
  generalize Z.getD (o + k) 0 = z at *
  generalize (18446744073709551616 : Nat) ^ k = P at *
  generalize (18446744073709551616 : Nat) = W at *
  grind

theorem W_mod3 (n : Nat) : 18446744073709551616 ^ n % 3 = 1 := by
  induction n with
  | zero => rfl
  | succ n ih => rw [Nat.pow_succ, Nat.mul_mod, ih]

theorem third_end (q s b P : Nat) (hP : P % 3 = 1) (hs : s % 3 = 0) (hb : b ≤ 2) (h : 3 * q = s + b * P) : q = s / 3 := by
  have h1 : (s + b * P) % 3 = 0 := by rw [← h]; exact Nat.mul_mod_right 3 q
  have h2 : (b * P) % 3 = b % 3 := by rw [Nat.mul_mod, hP, Nat.mul_one, Nat.mod_mod]
  have h3 : b = 0 := by omega
  subst h3
  omega

set_option maxHeartbeats 400000 in
theorem thirdOf_any (bz zo n cap : Nat) (Z : List Nat) (w : World) (hB : Blk w bz Z) (hLZ : Limbs Z) (hzo : zo + n ≤ Z.length) (hc1 : n ≤ cap) (hc2 : cap ≤ 9223372036854775807) (h3 : sv Z zo n % 3 = 0) :
    Calls Tryz.prog 134 #[.slice (some ⟨bz, zo, none⟩) n cap] w (IntoDone bz zo n Z w (sv Z zo n / 3)) := by
  have HB0 := hide hB
  have HLZ := hide hLZ
  have H3 := hide h3
  clear hB h3
  go_enter Tryz.func134, Tryz.ntmps134
  go_wp2
  go_loopw [2, 11] (fun c i wr => ∃ (k b : Nat) (Z' : List Nat), k ≤ n ∧ i = .int .i64 k ∧ c = .int .u64 b ∧ b ≤ 2 ∧ Out Z Z' zo (zo + k) ∧ Limbs Z' ∧ Blk wr bz Z' ∧ Fr bz w wr ∧
      3 * sv Z' zo k = sv Z zo k + b * 18446744073709551616 ^ k) (fun _ i _ => n - (intOf i).toNat)
  case atStart => exact ⟨0, 0, Z, Nat.zero_le _, rfl, rfl, by omega, Out.refl _ _ _, HLZ.out, HB0.out, Fr.refl _ _, by simp [sv_zero]⟩
  case round =>
    obtain ⟨k, b, Z', hk, rfl, rfl, hb, hout, hlz, hblk, hfr0, hval⟩ := hrel
    have hl := hout.len
    have HV := hide hval
    have HB := hide hblk
    have HF := hide hfr0
    have HO := hide hout
    clear hval
    by_cases hkl : k < n
    · have hfr := hblk.free (zo + k)
      have hco := hblk.cell (zo + k) (by omega)
      have z2 := limb_lt hlz (zo + k)
      have hsame := hout.same (zo + k) (by omega)
      obtain ⟨q1, q2, q3⟩ := third_limb (Z'.getD (zo + k) 0) b z2 hb
      have HS := hide (third_step Z Z' zo k b _ _ (by omega) hl HV.out (by rw [← hsame]; exact q1))
      have ha := sub64_z (Z'.getD (zo + k) 0) b
      generalize Z'.getD (zo + k) 0 = v at *
      clear hsame q1
      generalize (v + 18446744073709551616 - b) % 18446744073709551616 = r at *
      generalize bor v b 0 = u at *
      have ht : r * 12297829382473034411 % 18446744073709551616 < 18446744073709551616 := Nat.mod_lt _ (by omega)
      have e1 : IntKind.u64.wrap ((r : Int) * 12297829382473034411) = ((r * 12297829382473034411 % 18446744073709551616 : Nat) : Int) := by rw [IntKind.wrap_u64]; omega
      generalize r * 12297829382473034411 % 18446744073709551616 = t at *
      have hM := fun w' => Tryz.bits_Mul64 t 3 ht (by omega) w'
      generalize t * 3 / 18446744073709551616 = h1 at *
      have e2 : (h1 : Int) + (u : Int) = ((h1 + u : Nat) : Int) := by omega
      generalize h1 + u = c2 at *
      clear hblk hfr0 hout HV
      go_wp2_with fail
      refine (hM _).mono ?_
      rintro e w2 ⟨rfl, hw⟩
      subst hw
      clear hM
      go_wp2
      go_roundw
      case rel => exact ⟨k + 1, c2, Z'.set (zo + k) t, by omega, by go_num, rfl, q2, (HO.out.wider (Nat.le_refl _) (by omega)).set _ _ (by omega) (by omega), limbs_set hlz _ _ ht, HB.out.set _ t, HF.out.setCell _ _, HS.out⟩
      case measure => simp [intOf]; omega
    · have ek : k = n := by omega
      subst ek
      have HE := hide (third_end _ _ b _ (W_mod3 k) H3.out hb HV.out)
      clear hblk hfr0 hout HV
      go_wp2
      go_end0
      exact ⟨rfl, Z', HO.out, hlz, HB.out, HF.out, HE.out⟩

end Go.Proofs.YtppblbhkghjphaaGreatDoor

/- Package mul: part. -/
namespace Go.Proofs.YtppblbhkghjphaaGreatDoor
open Go.RowKit
open Lm

/-- A value that lies off whatever the other lies off. -/
def Within (v u : Value) : Prop := (∀ bz lo hi, Off u bz lo hi → Off v bz lo hi) ∧ ∀ bz, Aside u bz → Aside v bz

theorem Arg.cut {w : World} {b off n cap : Nat} {X : List Nat} (h : Arg w (.slice (some ⟨b, off, none⟩) n cap) X) (i m : Nat) (hi : i + m ≤ n) : Arg w (.slice (some ⟨b, off + i, none⟩) m (cap - i)) ((X.drop i).take m) := by
  obtain ⟨ao, c, h1, h2, h3, h4⟩ := h.form
  cases h1
  have hl : ((X.drop i).take m).length = m := by simp; omega
  refine ⟨⟨_, _, by rw [hl], by rw [hl]; omega, by omega, ?_⟩, fun z hz => h.limbs z (List.mem_of_mem_drop (List.mem_of_mem_take hz)), by rw [hl]; have := h.few; omega, fun n c e => by cases e⟩
  rcases h4 with h4 | ⟨b', off', he, hc⟩
  · subst h4; exact .inl (by simp)
  · cases he
    refine .inr ⟨b, off + i, rfl, fun k hk => ?_⟩
    rw [hl] at hk
    rw [Nat.add_assoc, hc (i + k) (by omega)]
    simp [List.getD, hk]

theorem within_cut (b off n cap i m : Nat) (hi : i + m ≤ n) : Within (.slice (some ⟨b, off + i, none⟩) m (cap - i)) (.slice (some ⟨b, off, none⟩) n cap) := ⟨fun bz lo hi' h b' off' n' c' e => by
  cases e
  rcases h b off n cap rfl with h1 | h1 | h1
  · exact .inl h1
  · exact .inr (.inl (by omega))
  · exact .inr (.inr (by omega)), fun bz h b' off' n' c' e => by
  cases e
  exact h b off n cap rfl⟩

set_option maxHeartbeats 400000 in
theorem part_in (b off cap at' m : Nat) (X : List Nat) (w : World) (hA : Arg w (.slice (some ⟨b, off, none⟩) X.length cap) X) (hat : at' < X.length) (hm : m ≤ 1125899906842624) :
    Calls Tryz.prog 136 #[.slice (some ⟨b, off, none⟩) X.length cap, .int .i64 at', .int .i64 m] w fun e w' => (∃ v, e = .returned v ∧ Arg w v ((X.drop at').take m) ∧ Within v (.slice (some ⟨b, off, none⟩) X.length cap)) ∧ w' = w := by
  have hX := hA.few
  obtain ⟨_, _, e0, hcc, hcm, _⟩ := hA.form
  cases e0
  have i1 : (at' : Int) < (X.length : Int) := by omega
  have i2 : (0 : Int) ≤ (at' : Int) := by omega
  have k1 : ¬ cap = at' := by omega
  have m1 : min (at' : Int) (X.length : Int) = (at' : Int) := by omega
  by_cases h : at' + m ≤ X.length
  · have HA := hide (hA.cut at' m h)
    have HW := hide (within_cut b off X.length cap at' m h)
    obtain ⟨s, es, hs1, hs2, es2⟩ : ∃ s : Nat, (at' : Int) + (m : Int) = (s : Int) ∧ s ≤ X.length ∧ at' ≤ s ∧ s - at' = m := ⟨at' + m, by omega, h, by omega, by omega⟩
    have i3 : (s : Int) ≤ (X.length : Int) := by omega
    have i4 : (at' : Int) ≤ (s : Int) := by omega
    have m2 : min (s : Int) (X.length : Int) = (s : Int) := by omega
    clear hA h
    go_enter Tryz.func136, Tryz.ntmps136
    go_wp2
    go_ret
    exact ⟨⟨_, rfl, HA.out, HW.out⟩, rfl⟩
  · have et : (X.drop at').take m = (X.drop at').take (X.length - at') := by
      rw [List.take_of_length_le (by simp; omega), List.take_of_length_le (by simp)]
    have HA := hide (hA.cut at' (X.length - at') (by omega))
    rw [← et] at HA
    have HW := hide (within_cut b off X.length cap at' (X.length - at') (by omega))
    obtain ⟨s, es, hs1⟩ : ∃ s : Nat, (at' : Int) + (m : Int) = (s : Int) ∧ X.length ≤ s := ⟨at' + m, by omega, by omega⟩
    have m2 : min (s : Int) (X.length : Int) = (X.length : Int) := by omega
    have i4 : (at' : Int) ≤ (X.length : Int) := by omega
    clear hA h et
    go_enter Tryz.func136, Tryz.ntmps136
    go_wp2
    go_ret
    exact ⟨⟨_, rfl, HA.out, HW.out⟩, rfl⟩

/-- A list parted: the product of a longer beginning. -/
theorem pieces_step (X : List Nat) (t l y : Nat) : val (X.take (t + l)) * y = val (X.take t) * y + 18446744073709551616 ^ t * (val ((X.drop t).take l) * y) ∨ X.length < t := by
  by_cases h : t ≤ X.length
  · left
    rw [List.take_add, val_append, List.length_take, Nat.min_eq_left h, Nat.add_mul, Nat.mul_assoc]
  · exact .inr (by omega)

theorem val_take_le (X : List Nat) (t : Nat) : val (X.take t) ≤ val X := by
  conv => rhs; rw [← List.take_append_drop t X, val_append]
  omega

/-- There is room for the piece. -/
theorem pieces_fit (Z : List Nat) (o t n p tot : Nat) (ht : t ≤ n) (ho : o + n ≤ Z.length) (h : sv Z o n + 18446744073709551616 ^ t * p ≤ tot) (htot : tot < 18446744073709551616 ^ n) : sv Z (o + t) (n - t) + p < 18446744073709551616 ^ (n - t) := by
  obtain ⟨d, rfl⟩ : ∃ d, n = t + d := ⟨n - t, by omega⟩
  rw [sv_split _ _ _ _ (by omega)] at h
  rw [Nat.pow_add] at htot
  rw [Nat.add_sub_cancel_left]
  have h2 : 18446744073709551616 ^ t * (sv Z (o + t) d + p) < 18446744073709551616 ^ t * 18446744073709551616 ^ d := by
    rw [Nat.mul_add]; omega
  exact Nat.lt_of_mul_lt_mul_left h2

theorem pieces_add (Z Z' : List Nat) (o t n p : Nat) (ht : t ≤ n) (ho : o + n ≤ Z.length) (hO : Out Z Z' (o + t) (o + n)) (h : sv Z' (o + t) (n - t) = sv Z (o + t) (n - t) + p) : sv Z' o n = sv Z o n + 18446744073709551616 ^ t * p := by
  obtain ⟨d, rfl⟩ : ∃ d, n = t + d := ⟨n - t, by omega⟩
  rw [Nat.add_sub_cancel_left] at h
  rw [sv_split Z' _ _ _ (by rw [hO.len]; omega), sv_split Z _ _ _ (by omega), h, hO.sv o t (by omega), Nat.mul_add]
  omega

end Go.Proofs.YtppblbhkghjphaaGreatDoor

/- Package mul: pieces. -/
namespace Go.Proofs.YtppblbhkghjphaaGreatDoor
open Go.RowKit
open Lm
attribute [local go_sem ↓] Go.wp_at_zero Go.wp_at_succ

/-- 'clear' of a piece. -/
theorem clear_any (bz zo n cap : Nat) (Z : List Nat) (w : World) (hB : Blk w bz Z) (hLZ : Limbs Z) (hzo : zo + n ≤ Z.length) :
    ∃ (w1 : World) (Z1 : List Nat), (∀ ty, (Builtin.clear_ #[24] ty #[.slice (some ⟨bz, zo, none⟩) n cap]).run Tryz.prog w = .ok (.tuple #[]) w1) ∧ Out Z Z1 zo (zo + n) ∧ Limbs Z1 ∧ Blk w1 bz Z1 ∧ Fr bz w w1 ∧ sv Z1 zo n = 0 := by
  rcases Nat.eq_zero_or_pos n with h0 | h0
  · subst h0
    exact ⟨w, Z, fun ty => clear_none _ _ _ _, Out.refl _ _ _, hLZ, hB, Fr.refl _ _, sv_zero _ _⟩
  · have hlr : (List.replicate n 0).length = n := by simp
    have e1 := lay_out (List.replicate n 0) Z zo
    have e2 := lay_sv (List.replicate n 0) Z zo (by rw [hlr]; exact hzo)
    rw [hlr] at e1 e2
    exact ⟨_, lay Z zo (List.replicate n 0), fun ty => clear_run bz zo _ cap Z w ty hB hzo h0, e1, lay_limbs _ (limbs_replicate _) _ _ hLZ, Blk.setCells _ _ hB, (Fr.refl _ _).setCells _ _, by rw [e2, val_replicate]⟩

theorem Fr.blk {bz g : Nat} {w w' : World} {M : List Nat} (h : Fr bz w w') (hb : Blk w g M) (hne : g ≠ bz) : Blk w' g M := by
  unfold Blk
  rw [h.block g hb.lt hne]; exact hb

theorem Blk.below' {w w' : World} {b : Nat} {xs : List Nat} (h : Blk w b xs) (hb : Below w.heap.size w w') : Blk w' b xs := by
  unfold Blk
  rw [hb.block b h.lt]; exact h

theorem Fr.other {bz g : Nat} {w a b : World} (h : Fr bz w a) (k : Fr g a b) (hg : w.heap.size ≤ g) : Fr bz w b :=
  ⟨k.os.trans h.os, k.tape.trans h.tape, k.output.trans h.output, Nat.le_trans h.size k.size, fun i h1 h2 => (k.block i (Nat.lt_of_lt_of_le h1 h.size) (by omega)).trans (h.block i h1 h2)⟩

theorem Arg.block {w : World} {b off n c : Nat} {X : List Nat} (h : Arg w (.slice (some ⟨b, off, none⟩) n c) X) (h0 : 0 < X.length) : b < w.heap.size := by
  obtain ⟨ao, cc, e, _, _, hl⟩ := h.form
  cases e
  exact Lies.block hl h0

theorem Off.far {v : Value} {g lo hi : Nat} {w : World} {X : List Nat} (hA : Arg w v X) (h0 : 0 < X.length) (hg : w.heap.size ≤ g) : Off v g lo hi := fun b off n c e => by
  subst e
  have := hA.block h0
  exact .inl (by omega)

theorem Aside.far {v : Value} {g : Nat} {w : World} {X : List Nat} (hA : Arg w v X) (h0 : 0 < X.length) (hg : w.heap.size ≤ g) : Aside v g := fun b off n c e => by
  subst e
  have := hA.block h0
  omega

/-- The beginning of a block, as an argument. -/
theorem Blk.take_arg {w : World} {g : Nat} {M : List Nat} (h : Blk w g M) (hl : Limbs M) (s cap : Nat) (hs : s ≤ M.length) (hc : s ≤ cap) (hm : cap ≤ 1125899906842624) : Arg w (.slice (some ⟨g, 0, none⟩) s cap) (M.take s) := by
  have e : (M.take s).length = s := by simp; omega
  refine ⟨⟨_, cap, by rw [e], by omega, by omega, .inr ⟨g, 0, rfl, fun k hk => ?_⟩⟩, fun z hz => hl z (List.mem_of_mem_take hz), by omega, fun n c e => by cases e⟩
  rw [e] at hk
  rw [Nat.zero_add, h.cell k (by omega)]
  simp [List.getD, hk]

theorem sv_take (M : List Nat) (s : Nat) : val (M.take s) = sv M 0 s := by simp [sv, seg]

set_option maxRecDepth 20000 in
set_option maxHeartbeats 1000000 in
theorem pieces_any (H T : Int) (bz zo cap : Nat) (Z : List Nat) (va vb : Value) (X Y : List Nat) (w : World) (hB : Blk w bz Z) (hLZ : Limbs Z) (hA : Arg w va X) (hA2 : Arg w vb Y)
    (ho : Off va bz zo (zo + (X.length + Y.length))) (ho2 : Off vb bz zo (zo + (X.length + Y.length))) (hzo : zo + (X.length + Y.length) ≤ Z.length) (hc1 : X.length + Y.length ≤ cap) (hc2 : cap ≤ 9223372036854775807)
    (hY : 0 < Y.length) (hlY : Y.length ≤ 17592186044000) (hI : ∀ t, t < X.length → IntoOk H T ((X.drop t).take Y.length) Y) :
    Calls Tryz.prog 126 #[way H T, .slice (some ⟨bz, zo, none⟩) (X.length + Y.length) cap, va, vb] w (IntoDone bz zo (X.length + Y.length) Z w (val X * val Y)) := by
  generalize hn : X.length + Y.length = n at *
  have hn1 : n ≤ X.length + Y.length := by omega
  have hn2 : X.length + Y.length ≤ n := by omega
  have HEN := hide hn
  clear hn
  unfold way
  obtain ⟨a1, c1, rfl, hcc1, hcm1, hl1⟩ := hA.form
  obtain ⟨a2, c2, rfl, hcc2, hcm2, hl2⟩ := hA2.form
  have fX := hA.few
  obtain ⟨i0, hi, hz0, hz1, hz2⟩ := info_parts Tryz.infoU
  obtain ⟨w1, hw1⟩ : ∃ w1, w1 = w.alloc (.cells #[.int .i64 H, .int .i64 T] 128) := ⟨_, rfl⟩
  have hbel1 : Below w.heap.size w w1 := by rw [hw1]; exact (Below.refl _ _).alloc (Nat.le_refl _) _
  have hs1 : w1.heap.size = w.heap.size + 1 := by rw [hw1]; simp
  have hb1 : w1.heap[w.heap.size]? = some (.cells #[.int .i64 H, .int .i64 T] 128) := by rw [hw1]; exact heap_alloc_new ..
  have hbz := hB.lt
  have hB1 : Blk w1 bz Z := by rw [hw1]; exact hB.alloc _
  obtain ⟨w2, Z2, hrun, hO2, hL2, hB2, hF2, hS2⟩ := clear_any bz zo n cap Z w1 hB1 hLZ hzo
  have hbx2 : w2.heap[w.heap.size]? = some (.cells #[.int .i64 H, .int .i64 T] 128) := by rw [hF2.block w.heap.size (by omega) (by omega)]; exact hb1
  have HF02 := hide ((Fr.of_below (bz := bz) hbel1).trans hF2)
  have hs2 := hF2.size
  have HW1 := hide hw1
  have HO2 := hide hO2
  have HB2 := hide hB2
  have HX2 := hide hbx2
  have HS2 := hide hS2
  have HII := hide hI
  have HHA := hide hA
  have HHA2 := hide hA2
  have HOF := hide ho
  have HOF2 := hide ho2
  have HB0 := hide hB
  have mX := val_lt hA.limbs
  have mY := val_lt hA2.limbs
  have HTOT : Hid (val X * val Y < 18446744073709551616 ^ (X.length + Y.length)) := hide (by rw [Nat.pow_add]; exact Nat.mul_lt_mul'' mX mY)
  clear hw1 hbel1 hb1 hB1 hO2 hB2 hbx2 hF2 hS2 hI hA hA2 ho ho2 hl1 hl2 mX mY hB hLZ
  obtain ⟨L, hL1, eL⟩ : ∃ L : Nat, L = 2 * Y.length ∧ (2 : Int) * (Y.length : Int) = (L : Int) := ⟨2 * Y.length, rfl, by omega⟩
  have hLa : L ≤ 2 * Y.length := by omega
  have hLb : 2 * Y.length ≤ L := by omega
  clear hL1
  rw [HW1.out] at hrun
  go_enter Tryz.func126, Tryz.ntmps126
  go_wp2_with (at_make; refine wpList_make_full _ rfl _ _ 24 rfl w2.heap.size 32 i0 (.int .u64 0) 1 Tryz.underlying24 hi hz0 hz1 .i64 .i64 _ _ L rfl rfl (by omega) (by omega) (by rw [hz2]; omega) (by unfold maxLen; omega) (Nat.le_refl _) ?_; intro w3 hown hgrow)
  have hm3 := Blk.made hown
  have hbel3 : Below w2.heap.size w2 w3 := (Below.refl _ _).grown hgrow (Nat.le_refl _) (fun k hk => by cases hk)
  obtain ⟨g, hg⟩ : ∃ g, g = w2.heap.size := ⟨_, rfl⟩
  rw [← hg] at hm3 ⊢
  have hgw : w.heap.size < g := by omega
  have hgbz : g ≠ bz := by omega
  have HB3 : Hid (Blk w3 bz Z2) := hide (HB2.out.below' hbel3)
  have HX3 : Hid (w3.heap[w.heap.size]? = some (.cells #[.int .i64 H, .int .i64 T] 128)) := hide (by rw [hbel3.block w.heap.size (by omega)]; exact HX2.out)
  have HF3 : Hid (Fr bz w w3) := hide (HF02.out.trans (Fr.of_below hbel3))
  clear hown hgrow hi hz0 hz1 hz2 hg hbel3 HB2 HX2 HF02 hrun HW1
  go_loopw [9] (fun i wr => ∃ (t : Nat) (Z' M : List Nat), t ≤ n ∧ i = .int .i64 t ∧ Out Z Z' zo (zo + n) ∧ Limbs Z' ∧ Blk wr bz Z' ∧ M.length = L ∧ Limbs M ∧ Blk wr g M ∧ wr.heap[w.heap.size]? = some (.cells #[.int .i64 H, .int .i64 T] 128) ∧ Fr bz w wr ∧
      sv Z' zo n = val (X.take t) * val Y) (fun i _ => X.length - (intOf i).toNat)
  case atStart => exact ⟨0, Z2, _, Nat.zero_le _, rfl, HO2.out, hL2, HB3.out, by simp, limbs_replicate _, hm3, HX3.out, HF3.out, by rw [HS2.out]; simp [val]⟩
  case round =>
    obtain ⟨t, Z', M, htn, rfl, hout, hlz, hblk, hML, hMl, hM, hbx, hfr0, hval⟩ := hrel
    clear HB3 HX3 HF3 hm3 HO2 hL2 HS2
    have hl := hout.len
    by_cases htl : t < X.length
    · have hAX := HHA.out.fr HOF.out hfr0 HB0.out hblk hout
      have hAY := HHA2.out.fr HOF2.out hfr0 HB0.out hblk hout
      obtain ⟨ao, cc, e0, _, _, hlx⟩ := hAX.form
      cases e0
      rcases hlx with h0 | ⟨b, off, rfl, _⟩
      · rw [h0] at htl; simp at htl
      have HP := part_in b off c1 t Y.length X wr hAX htl (by omega)
      have lP : ((X.drop t).take Y.length).length ≤ Y.length := by simp; omega
      have hstep := (pieces_step X t Y.length (val Y)).resolve_right (by omega)
      have htot2 : val (X.take (t + Y.length)) * val Y ≤ val X * val Y := Nat.mul_le_mul_right _ (val_take_le X _)
      have hIP := HII.out t htl
      have hOg : Aside (.slice (some ⟨b, off, none⟩) X.length c1) g := Aside.far HHA.out (by omega) (by omega)
      have hOg2 : Aside (.slice a2 Y.length c2) g := Aside.far HHA2.out hY (by omega)
      have hc0 : wr.cell? ⟨w.heap.size, 0, none⟩ = some (.int .i64 H) := by simp [World.cell?, hbx]
      have hc1' : wr.cell? ⟨w.heap.size, 1, none⟩ = some (.int .i64 T) := by simp [World.cell?, hbx]
      generalize (X.drop t).take Y.length = P at *
      have HST := hide hstep
      have HT2 := hide htot2
      have HV := hide hval
      have HBX := hide hbx
      have HHM := hide hM
      have HBK := hide hblk
      have HFR := hide hfr0
      have HO := hide hout
      have HAY := hide hAY
      clear hstep htot2 hval hbx hAX hblk hfr0 hout hAY
      go_wp2_with fail
      refine HP.mono ?_
      rintro e w4 ⟨⟨v, rfl, AP, HWi⟩, hw⟩
      subst hw
      obtain ⟨ap, cp, rfl, hcp1, hcp2, _⟩ := AP.form
      have HI := hIP g 0 L M _ _ w4 hM hMl AP HAY.out (HWi.2 _ hOg) hOg2 (by omega) (by omega) (by omega)
      obtain ⟨s, es1, es2, hs1, hs2⟩ : ∃ s : Nat, P.length + Y.length = s ∧ (P.length : Int) + (Y.length : Int) = (s : Int) ∧ s ≤ L ∧ P.length + Y.length ≤ s := ⟨_, rfl, by omega, by omega, Nat.le_refl _⟩
      rw [es1] at HI
      unfold way at HI
      have is1 : (s : Int) ≤ (L : Int) := by omega
      have is0 : (0 : Int) ≤ (s : Int) := by omega
      clear es1 HP hOg hOg2 AP HWi hM
      go_wp2_with fail
      refine HI.mono ?_
      rintro e w5 ⟨rfl, M', hO5, hl5, hB5, hF5, hv5⟩
      have hB5z := hF5.blk HBK.out (Ne.symm hgbz)
      have hbx5 : w5.heap[w.heap.size]? = some (.cells #[.int .i64 H, .int .i64 T] 128) := by
        rw [hF5.block w.heap.size (by have := HHM.out.lt; omega) (by omega)]; exact HBX.out
      have hM5 : M'.length = L := by rw [hO5.len]; exact hML
      have hle5 : sv Z' zo n + 18446744073709551616 ^ t * (val P * val Y) ≤ val X * val Y := by
        rw [HV.out, ← HST.out]; exact HT2.out
      have hvt : val (M'.take s) = val P * val Y := by rw [sv_take, hv5]
      have hfit := pieces_fit Z' zo t n (val P * val Y) _ (by omega) (by omega) hle5 (by rw [← HEN.out]; exact HTOT.out)
      have HPl := plus_any bz (zo + t) (n - t) (cap - t) Z' _ (M'.take s) w5 hB5z hlz (hB5.take_arg hl5 s L (by omega) (by omega) (by omega)) (fun b' off' n' c' e => by cases e; exact .inl hgbz) (by omega) (by omega) (by omega) (by rw [hvt]; exact hfit)
      rw [hvt] at HPl
      have HF5 := hide (HFR.out.other hF5 (by omega))
      have HB5 := hide hB5
      have HX5 := hide hbx5
      have k9 : ¬ cap = t := by omega
      have it1 : (t : Int) ≤ (n : Int) := by omega
      have it0 : (0 : Int) ≤ (t : Int) := by omega
      clear hO5 hB5 hF5 hv5 hB5z hbx5 hle5 hvt hfit HI HBX HHM HBK HFR hc0 hc1'
      go_wp2_with fail
      refine HPl.mono ?_
      rintro e w6 ⟨rfl, Z'', hO6, hl6, hB6, hF6, hv6⟩
      rw [show zo + t + (n - t) = zo + n by omega] at hO6
      have HV6 := hide (pieces_add Z' Z'' zo t n _ (by omega) (by omega) hO6 hv6)
      rw [HV.out, ← HST.out] at HV6
      have HO6 := hide (HO.out.trans (hO6.wider (by omega) (Nat.le_refl _)))
      have HB6 := hide hB6
      have HM6 := hide (hF6.blk HB5.out hgbz)
      have HX6 : Hid (w6.heap[w.heap.size]? = some (.cells #[.int .i64 H, .int .i64 T] 128)) := hide (by rw [hF6.block w.heap.size (by have := HB5.out.lt; omega) (by omega)]; exact HX5.out)
      have HF6 := hide (HF5.out.trans hF6)
      clear hO6 hB6 hF6 hv6 HPl HV HST HT2
      go_wp2
      go_roundw
      case rel => exact ⟨t + Y.length, Z'', M', by omega, by go_num, HO6.out, hl6, HB6.out, hM5, hl5, HM6.out, HX6.out, HF6.out, HV6.out⟩
      case measure => simp [intOf]; omega
    · have HV : Hid (sv Z' zo n = val X * val Y) := hide (by rw [hval, List.take_of_length_le (by omega)])
      have HD := hide (And.intro hout (And.intro hlz (And.intro hblk hfr0)))
      clear hout hlz hblk hM hbx hfr0 hval hMl hML
      go_wp2
      go_end0
      exact ⟨rfl, Z', HD.out.1, HD.out.2.1, HD.out.2.2.1, HD.out.2.2.2, HV.out⟩

end Go.Proofs.YtppblbhkghjphaaGreatDoor

/- Package mul: full. -/
namespace Go.Proofs.YtppblbhkghjphaaGreatDoor
open Go.RowKit
open Lm

/-- What 'full' answers: the product, with all the limbs of both, in new memory. -/
def FullDone (w : World) (n p : Nat) (e : Ending) (w' : World) : Prop :=
  ∃ (g : Nat) (Z' : List Nat), e = .returned (.slice (some ⟨g, 0, none⟩) n n) ∧ w.heap.size ≤ g ∧ Z'.length = n ∧ Limbs Z' ∧ Blk w' g Z' ∧ val Z' = p ∧ Below w.heap.size w w'

set_option maxRecDepth 20000 in
set_option maxHeartbeats 400000 in
theorem full_any (H T : Int) (va vb : Value) (X Y : List Nat) (w : World) (hA : Arg w va X) (hA2 : Arg w vb Y) (hX : 0 < X.length) (hY : 0 < Y.length) (hf : X.length + Y.length ≤ 35184372088831) (hI : IntoOk H T X Y) :
    Calls Tryz.prog 129 #[way H T, va, vb] w (FullDone w (X.length + Y.length) (val X * val Y)) := by
  unfold way
  obtain ⟨a1, c1, rfl, hcc1, hcm1, _⟩ := hA.form
  obtain ⟨a2, c2, rfl, hcc2, hcm2, _⟩ := hA2.form
  obtain ⟨i0, hi, hz0, hz1, hz2⟩ := info_parts Tryz.infoU
  obtain ⟨w1, hw1⟩ : ∃ w1, w1 = w.alloc (.cells #[.int .i64 H, .int .i64 T] 128) := ⟨_, rfl⟩
  have hbel1 : Below w.heap.size w w1 := by rw [hw1]; exact (Below.refl _ _).alloc (Nat.le_refl _) _
  have hs1 : w1.heap.size = w.heap.size + 1 := by rw [hw1]; simp
  have hb1 : w1.heap[w.heap.size]? = some (.cells #[.int .i64 H, .int .i64 T] 128) := by rw [hw1]; exact heap_alloc_new ..
  have HW1 := hide hw1
  have B1 := hide hbel1
  have HX1 := hide hb1
  clear hw1 hbel1 hb1
  obtain ⟨n, hn, en⟩ : ∃ n : Nat, X.length + Y.length = n ∧ (X.length : Int) + (Y.length : Int) = (n : Int) := ⟨_, rfl, by omega⟩
  rw [hn]
  have hn1 : n ≤ 35184372088831 := by omega
  have HN := hide hn
  clear hn
  go_enter Tryz.func129, Tryz.ntmps129
  go_wp2_with (at_make; (rw [← HW1.out]; refine wpList_make_full _ rfl _ _ 24 rfl w1.heap.size 32 i0 (.int .u64 0) 1 Tryz.underlying24 hi hz0 hz1 .i64 .i64 _ _ n rfl rfl (by omega) (by omega) (by rw [hz2]; omega) (by unfold maxLen; omega) (Nat.le_refl _) ?_; intro w3 hown hgrow; have hm3 := Blk.made hown; have hbel3 : Below w1.heap.size w1 w3 := (Below.refl _ _).grown hgrow (Nat.le_refl _) (fun k hk => by cases hk); have hbx3 : w3.heap[w.heap.size]? = some (.cells #[.int .i64 H, .int .i64 T] 128) := (hbel3.block w.heap.size (by omega)).trans HX1.out; have hc0 : w3.cell? ⟨w.heap.size, 0, none⟩ = some (.int .i64 H) := (by simp [World.cell?, hbx3]); have hc1 : w3.cell? ⟨w.heap.size, 1, none⟩ = some (.int .i64 T) := (by simp [World.cell?, hbx3]); clear hown hgrow hbx3))
  rw [hs1] at hm3
  have B3 : Hid (Below w.heap.size w w3) := hide (B1.out.trans (hbel3.mono B1.out.size))
  obtain ⟨g, hg⟩ : ∃ g, g = w.heap.size + 1 := ⟨_, rfl⟩
  rw [← hg] at hm3 ⊢
  have HI := hI g 0 n (List.replicate n 0) _ _ w3 hm3 (limbs_replicate _) (hA.below B3.out) (hA2.below B3.out) (Aside.far hA hX (by omega)) (Aside.far hA2 hY (by omega)) (by simp; have := HN.out; omega) (by have := HN.out; omega) (by omega)
  rw [HN.out] at HI
  unfold way at HI
  have HG := hide hg
  clear hg hm3 hbel3 hA hA2 hI
  go_wp2_with fail
  refine HI.mono ?_
  rintro e w5 ⟨rfl, Z', hO5, hl5, hB5, hF5, hv5⟩
  have hlen : Z'.length = n := by rw [hO5.len]; simp
  have hv : val Z' = val X * val Y := by rw [← hv5, ← hlen, sv_all]
  have HD : Hid (w.heap.size ≤ g ∧ Z'.length = n ∧ Limbs Z' ∧ Blk w5 g Z' ∧ val Z' = val X * val Y ∧ Below w.heap.size w w5) := hide ⟨by have := HG.out; omega, hlen, hl5, hB5, hv, B3.out.trans (hF5.below (by have := HG.out; omega) B3.out.size)⟩
  clear hO5 hl5 hB5 hF5 hv5 hv hlen HI B3
  go_wp2
  go_ret
  exact ⟨g, Z', rfl, HD.out⟩

/-- Karatsuba's identity, of the differences: the middle part. -/
theorem karatsuba_mid (a0 a1 b0 b1 da db : Nat) (ha : da = if a0 < a1 then a1 - a0 else a0 - a1) (hb : db = if b0 < b1 then b1 - b0 else b0 - b1) :
    (if decide (a0 < a1) ≠ decide (b0 < b1) then a0 * b0 + a1 * b1 + da * db else a0 * b0 + a1 * b1 - da * db) = a0 * b1 + a1 * b0 := by
  subst ha; subst hb
  by_cases h1 : a0 < a1 <;> by_cases h2 : b0 < b1
  · obtain ⟨p, rfl⟩ : ∃ p, a1 = a0 + p := ⟨a1 - a0, by omega⟩
    obtain ⟨q, rfl⟩ : ∃ q, b1 = b0 + q := ⟨b1 - b0, by omega⟩
    simp only [h1, h2, decide_true, if_true, ne_eq, not_true_eq_false, if_false, Nat.add_sub_cancel_left]
    have : a0 * b0 + (a0 + p) * (b0 + q) = a0 * (b0 + q) + (a0 + p) * b0 + p * q := by grind
    omega
  · obtain ⟨p, rfl⟩ : ∃ p, a1 = a0 + p := ⟨a1 - a0, by omega⟩
    obtain ⟨q, rfl⟩ : ∃ q, b0 = b1 + q := ⟨b0 - b1, by omega⟩
    simp only [h1, h2, decide_true, decide_false, if_true, if_false, ne_eq, Bool.true_eq_false, not_false_eq_true, Nat.add_sub_cancel_left]
    grind
  · obtain ⟨p, rfl⟩ : ∃ p, a0 = a1 + p := ⟨a0 - a1, by omega⟩
    obtain ⟨q, rfl⟩ : ∃ q, b1 = b0 + q := ⟨b1 - b0, by omega⟩
    simp only [h1, h2, decide_true, decide_false, if_true, if_false, ne_eq, Bool.false_eq_true, not_false_eq_true, Nat.add_sub_cancel_left]
    grind
  · obtain ⟨p, rfl⟩ : ∃ p, a0 = a1 + p := ⟨a0 - a1, by omega⟩
    obtain ⟨q, rfl⟩ : ∃ q, b0 = b1 + q := ⟨b0 - b1, by omega⟩
    simp only [h1, h2, decide_false, if_false, ne_eq, not_true_eq_false, Nat.add_sub_cancel_left]
    have : (a1 + p) * (b1 + q) + a1 * b1 = (a1 + p) * b1 + a1 * (b1 + q) + p * q := by grind
    omega

end Go.Proofs.YtppblbhkghjphaaGreatDoor

/- Package mul: what 'halves' wants: pieces of blocks as arguments, frames. -/
namespace Go.Proofs.YtppblbhkghjphaaGreatDoor
open Go.RowKit
open Lm

theorem Arg.drew {w : World} {v : Value} {zs : List Nat} (h : Arg w v zs) : Arg w.drew v zs := h.below (Below.refl _ _).drew

theorem Arg.front {w : World} {b off n cap : Nat} {X : List Nat} (h : Arg w (.slice (some ⟨b, off, none⟩) n cap) X) (m : Nat) (hm : m ≤ n) : Arg w (.slice (some ⟨b, off, none⟩) m cap) (X.take m) := h.cut 0 m (by omega)

theorem val_halves (X : List Nat) (h : Nat) (hh : h ≤ X.length) : val X = val (X.take h) + 18446744073709551616 ^ h * val (X.drop h) := by
  conv => lhs; rw [← List.take_append_drop h X, val_append]
  rw [List.length_take, Nat.min_eq_left hh]

theorem val_take_lt' {X : List Nat} (hX : Limbs X) (h : Nat) (hh : h ≤ X.length) : val (X.take h) < 18446744073709551616 ^ h := by
  have := val_lt (zs := X.take h) (fun z hz => hX z (List.mem_of_mem_take hz))
  rwa [List.length_take, Nat.min_eq_left hh] at this

theorem val_drop_lt' {X : List Nat} (hX : Limbs X) (h m : Nat) (hh : X.length ≤ h + m) : val (X.drop h) < 18446744073709551616 ^ m := by
  have h1 := val_lt (zs := X.drop h) (fun z hz => hX z (List.mem_of_mem_drop hz))
  refine Nat.lt_of_lt_of_le h1 (Nat.pow_le_pow_right (by omega) ?_)
  simp; omega

theorem Fr.undrew {bz : Nat} {w w' : World} (h : Fr bz w.drew w') : Fr bz w w' := ⟨h.os, h.tape, h.output, h.size, h.block⟩

/-- An argument in another block stays as it was. -/
theorem Arg.frb {w w' : World} {b off n c bz : Nat} {X : List Nat} (h : Arg w (.slice (some ⟨b, off, none⟩) n c) X) (hf : Fr bz w w') (hb : b ≠ bz) : Arg w' (.slice (some ⟨b, off, none⟩) n c) X := by
  obtain ⟨ao, cc, e, h2, h3, hl⟩ := h.form
  cases e
  refine ⟨⟨_, _, rfl, h2, h3, ?_⟩, h.limbs, h.few, h.nz⟩
  rcases hl with h0 | ⟨b', off', e, hc⟩
  · exact .inl h0
  · cases e
    rcases Nat.eq_zero_or_pos X.length with h0 | h0
    · exact .inl (List.length_eq_zero_iff.1 h0)
    · have hlt : b < w.heap.size := Lies.block (zs := X) (.inr ⟨b, off, rfl, hc⟩) h0
      refine .inr ⟨b, off, rfl, fun k hk => ?_⟩
      rw [World.cell?_of_block (w := w) (hf.block b hlt hb)]
      exact hc k hk

/-- A piece of a block, as an argument. -/
theorem Blk.seg_arg {w : World} {g : Nat} {M : List Nat} (h : Blk w g M) (hl : Limbs M) (o n cap : Nat) (hs : o + n ≤ M.length) (hc : n ≤ cap) (hm : cap ≤ 9223372036854775807) (hn : n ≤ 1125899906842624) : Arg w (.slice (some ⟨g, o, none⟩) n cap) (seg M o n) := by
  have e := seg_length M o n hs
  refine ⟨⟨_, cap, by rw [e], by omega, hm, .inr ⟨g, o, rfl, fun k hk => ?_⟩⟩, limbs_seg hl o n, by omega, fun n c e => by cases e⟩
  rw [e] at hk
  rw [h.cell (o + k) (by omega), seg_getD _ _ _ _ hk]

end Go.Proofs.YtppblbhkghjphaaGreatDoor

/- Package mul: halves. -/
namespace Go.Proofs.YtppblbhkghjphaaGreatDoor
open Go.RowKit
open Lm

theorem getD_zeros' (n k : Nat) : (List.replicate n 0).getD k 0 = 0 := by
  by_cases h : k < n
  · simp [List.getD, h]
  · simp [List.getD, h]

theorem kara_pow (h d : Nat) (e : d = h + h) : 18446744073709551616 ^ d = 18446744073709551616 ^ h * 18446744073709551616 ^ h := by
  rw [e, Nat.pow_add]

theorem kara_fit {a b d : Nat} (ha : a < 18446744073709551616 ^ d) (hb : b < 18446744073709551616 ^ d) : a + b < 18446744073709551616 ^ (d + 1) := by
  rw [Nat.pow_succ]
  generalize (18446744073709551616 : Nat) ^ d = P at *
  omega

theorem kara_le (a0 a1 b0 b1 da db : Nat) (ha : da = if a0 < a1 then a1 - a0 else a0 - a1) (hb : db = if b0 < b1 then b1 - b0 else b0 - b1) (h : decide (a0 < a1) = decide (b0 < b1)) : da * db ≤ a0 * b0 + a1 * b1 := by
  subst ha; subst hb
  by_cases h1 : a0 < a1
  · have h2 : b0 < b1 := by simpa [h1] using h
    rw [if_pos h1, if_pos h2]
    exact Nat.le_trans (Nat.mul_le_mul (Nat.sub_le _ _) (Nat.sub_le _ _)) (Nat.le_add_left _ _)
  · have h2 : ¬ b0 < b1 := by simpa [h1] using h
    rw [if_neg h1, if_neg h2]
    exact Nat.le_trans (Nat.mul_le_mul (Nat.sub_le _ _) (Nat.sub_le _ _)) (Nat.le_add_right _ _)

theorem kara_total (a0 a1 b0 b1 P : Nat) : (a0 + P * a1) * (b0 + P * b1) = a0 * b0 + P * P * (a1 * b1) + P * (a0 * b1 + a1 * b0) := by grind

set_option maxRecDepth 20000 in
set_option maxHeartbeats 1000000 in
theorem halves_any (H T : Int) (bz zo cap h : Nat) (Z : List Nat) (b off c1 b2 off2 c2 : Nat) (X Y : List Nat) (w : World) (hB : Blk w bz Z) (hLZ : Limbs Z)
    (hA : Arg w (.slice (some ⟨b, off, none⟩) X.length c1) X) (hA2 : Arg w (.slice (some ⟨b2, off2, none⟩) Y.length c2) Y) (hb : b ≠ bz) (hb2 : b2 ≠ bz)
    (hzo : zo + (X.length + Y.length) ≤ Z.length) (hc1 : X.length + Y.length ≤ cap) (hc2 : cap ≤ 9223372036854775807) (hh0 : 0 < h) (hhY : h < Y.length) (hYX : Y.length ≤ X.length) (hXh : X.length ≤ 2 * h) (hlX : X.length ≤ 4398046511103)
    (hI : ∀ P Q : List Nat, P.length + Q.length < X.length + Y.length → IntoOk H T P Q) :
    Calls Tryz.prog 125 #[way H T, .slice (some ⟨bz, zo, none⟩) (X.length + Y.length) cap, .slice (some ⟨b, off, none⟩) X.length c1, .slice (some ⟨b2, off2, none⟩) Y.length c2, .int .i64 h] w (IntoDone bz zo (X.length + Y.length) Z w (val X * val Y)) := by
  unfold way
  obtain ⟨_, _, e0, hcc1, hcm1, _⟩ := hA.form
  cases e0
  obtain ⟨_, _, e0, hcc2, hcm2, _⟩ := hA2.form
  cases e0
  obtain ⟨i0, hi, hz0, hz1, hz2⟩ := info_parts Tryz.infoU
  have hbz := hB.lt
  have hbw := hA.block (by omega)
  have hbw2 := hA2.block (by omega)
  obtain ⟨w1, hw1⟩ : ∃ w1, w1 = w.alloc (.cells #[.int .i64 H, .int .i64 T] 128) := ⟨_, rfl⟩
  have hbel1 : Below w.heap.size w w1 := by rw [hw1]; exact (Below.refl _ _).alloc (Nat.le_refl _) _
  have hs1 : w1.heap.size = w.heap.size + 1 := by rw [hw1]; simp
  have hb1 : w1.heap[w.heap.size]? = some (.cells #[.int .i64 H, .int .i64 T] 128) := by rw [hw1]; exact heap_alloc_new ..
  have HW1 := hide hw1
  have HX1 := hide hb1
  have HB1 := hide (hB.below' hbel1)
  have HA1 := hide (hA.below hbel1)
  have HA2 := hide (hA2.below hbel1)
  have HF1 := hide (Fr.of_below (bz := bz) hbel1)
  have HII := hide hI
  clear hw1 hbel1 hb1 hB hA hA2 hI
  obtain ⟨n, hn⟩ : ∃ n : Nat, X.length + Y.length = n := ⟨_, rfl⟩
  have hn1 : n ≤ X.length + Y.length := by omega
  have hn2 : X.length + Y.length ≤ n := by omega
  rw [hn] at hzo hc1 HII ⊢
  have HN := hide hn
  clear hn
  obtain ⟨d, ed, hd1, hd2⟩ : ∃ d : Nat, (2 : Int) * (h : Int) = (d : Int) ∧ d ≤ 2 * h ∧ 2 * h ≤ d := ⟨2 * h, by omega, by omega, by omega⟩
  obtain ⟨R, eR, hR1, hR2⟩ : ∃ R : Nat, (4 : Int) * (h : Int) + 1 = (R : Int) ∧ R ≤ 4 * h + 1 ∧ 4 * h + 1 ≤ R := ⟨4 * h + 1, by omega, by omega, by omega⟩
  have wd : IntKind.i64.wrap (d : Int) = (d : Int) := by rw [IntKind.wrap_i64]; omega
  have kd0 : (0 : Int) ≤ (d : Int) := by omega
  have kd1 : (d : Int) ≤ (n : Int) := by omega
  have kd2 : ¬ cap = d := by omega
  have kd3 : (d : Int) ≤ (cap : Int) := by omega
  go_enter Tryz.func125, Tryz.ntmps125
  go_wp2_with fail
  rw [← HW1.out]
  go_region
  go_wp2_with (at_make; refine wpList_make_full _ rfl _ _ 24 rfl w1.drew.heap.size 32 i0 (.int .u64 0) 1 Tryz.underlying24 hi hz0 hz1 .i64 .i64 _ _ R rfl rfl (by omega) (by omega) (by rw [hz2]; omega) (by unfold maxLen; omega) (Nat.le_refl _) ?_; intro w3 hown hgrow)
  have hm3 : Blk w3 (w.heap.size + 1) (List.replicate R 0) := by rw [← hs1]; exact Blk.made hown
  have hbel3 : Below w1.heap.size w1 w3 := ((Below.refl _ _).drew).grown hgrow (Nat.le_refl _) (fun k hk => by cases hk)
  have HB3 := hide (HB1.out.below' hbel3)
  have HX3 : Hid (w3.heap[w.heap.size]? = some (.cells #[.int .i64 H, .int .i64 T] 128)) := hide (by rw [hbel3.block w.heap.size (by omega)]; exact HX1.out)
  have HF3 : Hid (Fr bz w w3) := hide (HF1.out.trans (Fr.of_below hbel3))
  have HA3 := hide (HA1.out.below hbel3)
  have HA23 := hide (HA2.out.below hbel3)
  obtain ⟨g, hg⟩ : ∃ g, g = w.heap.size + 1 := ⟨_, rfl⟩
  rw [← hg] at hm3 ⊢
  have hgw : w.heap.size < g := by omega
  have HM3 := hide hm3
  clear hown hgrow hi hz0 hz1 hz2 hbel3 HB1 HX1 HF1 HA1 HA2 HW1 hg hm3 hs1
  have mX := HA3.out.limbs
  have mY := HA23.out.limbs
  have kr1 : (d : Int) ≤ (R : Int) := by omega
  have kr2 : ¬ R = d := by omega
  have kh0 : (0 : Int) ≤ (h : Int) := by omega
  have kh1 : (h : Int) ≤ (d : Int) := by omega
  have kh2 : (h : Int) ≤ (X.length : Int) := by omega
  have kh3 : (h : Int) ≤ (Y.length : Int) := by omega
  have kh4 : ¬ c1 = h := by omega
  have kh5 : ¬ c2 = h := by omega
  have kh6 : ¬ cap = h := by omega
  have kh7 : (h : Int) ≤ (c1 : Int) := by omega
  have kh8 : (h : Int) ≤ (c2 : Int) := by omega
  have kh9 : (h : Int) ≤ (cap : Int) := by omega
  have HAP := apart_any bz zo h cap Z _ _ (X.take h) (X.drop h) w3.drew.drew HB3.out hLZ (HA3.out.front h (by omega)).drew.drew (HA3.out.drop h (by omega)).drew.drew
    (fun b' off' n' c' e => by cases e; exact .inl hb) (fun b' off' n' c' e => by cases e; exact .inl hb) (by omega) (by omega) hc2 (val_take_lt' mX h (by omega)) (val_drop_lt' mX h h (by omega))
  go_wp2
  go_region
  go_wp2
  go_region_held3 (fun _ => True) (trivial) (first | (go_at_call 135; refine HAP.mono ?_; rintro e w4 ⟨rfl, Z1, p1, p2, p3, p4, p5⟩))
  have F4 := hide p4.undrew.undrew
  obtain ⟨da, hda⟩ : ∃ da, da = (if val (X.take h) < val (X.drop h) then val (X.drop h) - val (X.take h) else val (X.take h) - val (X.drop h)) := ⟨_, rfl⟩
  rw [← hda] at p5
  have HDA := hide hda
  have hbzg : bz ≠ g := by omega
  have HM4 := hide (F4.out.blk HM3.out (Ne.symm hbzg))
  have HX4 : Hid (w4.heap[w.heap.size]? = some (.cells #[.int .i64 H, .int .i64 T] 128)) := hide (by rw [F4.out.block w.heap.size (by have := HM3.out.lt; omega) (by omega)]; exact HX3.out)
  have HA4 := hide (HA3.out.frb F4.out hb)
  have HA24 := hide (HA23.out.frb F4.out hb2)
  have HF4 := hide (HF3.out.trans F4.out)
  have O1 := hide p1
  have S1 := hide p5
  have l1 := p1.len
  have edh : d - h = h := by omega
  have HAP2 := apart_any bz (zo + h) h (cap - h) Z1 _ _ (Y.take h) (Y.drop h) w4.drew p3 p2 (HA24.out.front h (by omega)).drew (HA24.out.drop h (by omega)).drew
    (fun b' off' n' c' e => by cases e; exact .inl hb2) (fun b' off' n' c' e => by cases e; exact .inl hb2) (by omega) (by omega) (by omega) (val_take_lt' mY h (by omega)) (val_drop_lt' mY h h (by omega))
  clear p1 p2 p3 p4 p5 hda HAP HB3 HX3 HF3 HA3 HA23 HM3 F4
  generalize hsa : decide (val (X.take h) < val (X.drop h)) = sa at *
  have HSA := hide hsa
  clear hsa
  go_wp2
  go_region_held3 (fun _ => True) (trivial) (first | (go_at_call 135; refine HAP2.mono ?_; rintro e w5 ⟨rfl, Z2, p1, p2, p3, p4, p5⟩))
  have F5 := hide p4.undrew
  obtain ⟨db, hdb⟩ : ∃ db, db = (if val (Y.take h) < val (Y.drop h) then val (Y.drop h) - val (Y.take h) else val (Y.take h) - val (Y.drop h)) := ⟨_, rfl⟩
  rw [← hdb] at p5
  have HDB := hide hdb
  have HM5 := hide (F5.out.blk HM4.out (Ne.symm hbzg))
  have HX5 : Hid (w5.heap[w.heap.size]? = some (.cells #[.int .i64 H, .int .i64 T] 128)) := hide (by rw [F5.out.block w.heap.size (by have := HM4.out.lt; omega) (by omega)]; exact HX4.out)
  have HA5 := hide (HA4.out.frb F5.out hb)
  have HA25 := hide (HA24.out.frb F5.out hb2)
  have HF5 := hide (HF4.out.trans F5.out)
  have O2 := hide (O1.out.wider (lo' := zo) (hi' := zo + n) (Nat.le_refl _) (by omega) |>.trans (p1.wider (by omega) (by omega)))
  have S2a : Hid (sv Z2 zo h = da) := hide (by rw [p1.sv zo h (by omega)]; exact S1.out)
  have S2b := hide p5
  have HB5 := hide p3
  have HL5 := hide p2
  have l2 : Z2.length = Z.length := O2.out.len
  have sg1 := seg_length Z2 zo h (by omega)
  have sg2 := seg_length Z2 (zo + h) h (by omega)
  have HI3 := HII.out (seg Z2 zo h) (seg Z2 (zo + h) h) (by rw [sg1, sg2]; omega) g 0 R (List.replicate R 0) _ _ w5.drew HM5.out (limbs_replicate _) (p3.seg_arg p2 zo h cap (by omega) (by omega) (by omega) (by omega)).drew (p3.seg_arg p2 (zo + h) h (cap - h) (by omega) (by omega) (by omega) (by omega)).drew
    (fun b' off' n' c' e => by cases e; exact hbzg) (fun b' off' n' c' e => by cases e; exact hbzg) (by rw [sg1, sg2]; simp; omega) (by rw [sg1, sg2]; omega) (by omega)
  rw [sg1, sg2, show h + h = d by omega, show val (seg Z2 zo h) = da from S2a.out, show val (seg Z2 (zo + h) h) = db from S2b.out] at HI3
  unfold way at HI3
  have HK := hide (fun (w7 : World) (hF : Fr g w5.drew w7) => (by
    have e : w7.heap[w.heap.size]? = some (.cells #[.int .i64 H, .int .i64 T] 128) := by rw [hF.block w.heap.size (by show _ < w5.heap.size; have := HM5.out.lt; omega) (by omega)]; exact HX5.out
    exact ⟨by simp [World.cell?, e], by simp [World.cell?, e]⟩ : w7.cell? ⟨w.heap.size, 0, none⟩ = some (.int .i64 H) ∧ w7.cell? ⟨w.heap.size, 1, none⟩ = some (.int .i64 T)))
  have hq0 : w5.cell? ⟨w.heap.size, 0, none⟩ = some (.int .i64 H) := by have e := HX5.out; simp [World.cell?, e]
  have hq1 : w5.cell? ⟨w.heap.size, 1, none⟩ = some (.int .i64 T) := by have e := HX5.out; simp [World.cell?, e]
  clear p1 p2 p3 p4 p5 hdb HAP2 HM4 HX4 HA4 HA24 HF4 F5 O1 S1 sg1 sg2 S2a S2b l1
  generalize hsb : decide (val (Y.take h) < val (Y.drop h)) = sb at *
  have HSB := hide hsb
  clear hsb
  go_wp2
  go_region_held3 (fun w' => w'.cell? ⟨w.heap.size, 0, none⟩ = some (.int .i64 H) ∧ w'.cell? ⟨w.heap.size, 1, none⟩ = some (.int .i64 T)) (go_keep) (first | (go_at_call 122; refine HI3.mono ?_; rintro e w6 ⟨rfl, M1, p1, p2, p3, p4, p5⟩; obtain ⟨hk0, hk1⟩ := HK.out w6 p4))
  rw [Nat.zero_add] at p1
  have HB6 := hide (p4.undrew.blk HB5.out hbzg)
  have HX6 : Hid (w6.heap[w.heap.size]? = some (.cells #[.int .i64 H, .int .i64 T] 128)) := hide (by rw [p4.block w.heap.size (by show _ < w5.heap.size; have := HM5.out.lt; omega) (by omega)]; exact HX5.out)
  have HA6 := hide (HA5.out.frb p4.undrew (by omega))
  have HA26 := hide (HA25.out.frb p4.undrew (by omega))
  have HF6 := hide (HF5.out.other p4.undrew (by omega))
  have OM1 := hide p1
  have LM1 := hide p2
  have BM1 := hide p3
  have SM1 := hide p5
  have tk1 : (X.take h).length = h := by simp; omega
  have tk2 : (Y.take h).length = h := by simp; omega
  have HI4 := HII.out (X.take h) (Y.take h) (by rw [tk1, tk2]; omega) bz zo cap Z2 _ _ w6.drew HB6.out HL5.out (HA6.out.front h (by omega)).drew (HA26.out.front h (by omega)).drew
    (fun b' off' n' c' e => by cases e; exact hb) (fun b' off' n' c' e => by cases e; exact hb2) (by rw [tk1, tk2]; omega) (by rw [tk1, tk2]; omega) (by omega)
  rw [tk1, tk2, show h + h = d by omega] at HI4
  unfold way at HI4
  have HK6 := hide (fun (w7 : World) (hF : Fr bz w6.drew w7) => (by
    have e : w7.heap[w.heap.size]? = some (.cells #[.int .i64 H, .int .i64 T] 128) := by rw [hF.block w.heap.size (by show _ < w6.heap.size; have := BM1.out.lt; omega) (by omega)]; exact HX6.out
    exact ⟨e, by simp [World.cell?, e], by simp [World.cell?, e]⟩ : w7.heap[w.heap.size]? = some (.cells #[.int .i64 H, .int .i64 T] 128) ∧ w7.cell? ⟨w.heap.size, 0, none⟩ = some (.int .i64 H) ∧ w7.cell? ⟨w.heap.size, 1, none⟩ = some (.int .i64 T)))
  clear p1 p2 p3 p4 p5 HI3 HK hq0 hq1 HM5 HX5 HA5 HA25 HF5 HB5 tk1 tk2
  go_wp2
  go_region_held3 (fun w' => w'.cell? ⟨w.heap.size, 0, none⟩ = some (.int .i64 H) ∧ w'.cell? ⟨w.heap.size, 1, none⟩ = some (.int .i64 T)) (go_keep) (first | (go_at_call 122; refine HI4.mono ?_; rintro e w7 ⟨rfl, Z3, p1, p2, p3, p4, p5⟩; obtain ⟨hx7, hk2, hk3⟩ := HK6.out w7 p4))
  have HX7 := hide hx7
  have HA7 := hide (HA6.out.frb p4.undrew hb)
  have HA27 := hide (HA26.out.frb p4.undrew hb2)
  have HF7 := hide (HF6.out.trans p4.undrew)
  have BM7 := hide (p4.undrew.blk BM1.out (Ne.symm hbzg))
  have O3 := hide (O2.out.trans (p1.wider (Nat.le_refl _) (by omega)))
  have S3 := hide p5
  have l3 : Z3.length = Z.length := O3.out.len
  have HI5 := HII.out (X.drop h) (Y.drop h) (by simp; omega) bz (zo + d) (cap - d) Z3 _ _ w7.drew p3 p2 (HA7.out.drop h (by omega)).drew (HA27.out.drop h (by omega)).drew
    (fun b' off' n' c' e => by cases e; exact hb) (fun b' off' n' c' e => by cases e; exact hb2) (by simp; omega) (by simp; omega) (by omega)
  rw [List.length_drop, List.length_drop, show X.length - h + (Y.length - h) = n - d by omega] at HI5
  unfold way at HI5
  have HK7 := hide (fun (w8 : World) (hF : Fr bz w7.drew w8) => (by
    have e : w8.heap[w.heap.size]? = some (.cells #[.int .i64 H, .int .i64 T] 128) := by rw [hF.block w.heap.size (by show _ < w7.heap.size; have := BM7.out.lt; omega) (by omega)]; exact HX7.out
    exact ⟨by simp [World.cell?, e], by simp [World.cell?, e]⟩ : w8.cell? ⟨w.heap.size, 0, none⟩ = some (.int .i64 H) ∧ w8.cell? ⟨w.heap.size, 1, none⟩ = some (.int .i64 T)))
  clear p1 p2 p3 p4 p5 hx7 HI4 HK6 hk0 hk1 HA6 HA26 HF6 BM1 O2 HX6 HB6 l2
  go_wp2
  go_region_held3 (fun w' => w'.cell? ⟨w.heap.size, 0, none⟩ = some (.int .i64 H) ∧ w'.cell? ⟨w.heap.size, 1, none⟩ = some (.int .i64 T)) (go_keep) (first | (go_at_call 122; refine HI5.mono ?_; rintro e w8 ⟨rfl, Z4, p1, p2, p3, p4, p5⟩; obtain ⟨hk4, hk5⟩ := HK7.out w8 p4))
  rw [show zo + d + (n - d) = zo + n by omega] at p1
  have HA0 := val_take_lt' mX h (by omega)
  have HA1 := val_drop_lt' mX h h (by omega)
  have HB0 := val_take_lt' mY h (by omega)
  have HB1 := val_drop_lt' mY h h (by omega)
  have vX := val_halves X h (by omega)
  have vY := val_halves Y h (by omega)
  have O4 := hide (O3.out.trans (p1.wider (by omega) (Nat.le_refl _)))
  have S4a : Hid (sv Z4 zo d = val (X.take h) * val (Y.take h)) := hide (by rw [p1.sv zo d (by omega)]; exact S3.out)
  have S4b := hide p5
  have HF8 := hide (HF7.out.trans p4.undrew)
  have BM8 := hide (p4.undrew.blk BM7.out (Ne.symm hbzg))
  have l4 : Z4.length = Z.length := O4.out.len
  have lM1 : M1.length = R := by rw [OM1.out.len]; simp
  have sg := seg_length Z4 zo d (by omega)
  have hcp := fun ty => copy_run g d (R - d) (R - d) M1 (some ⟨bz, zo, none⟩) cap (seg Z4 zo d) w8 ty BM8.out (by omega) (.inr ⟨bz, zo, rfl, fun k hk => by rw [sg] at hk; rw [p3.cell (zo + k) (by omega), seg_getD _ _ _ _ hk]⟩) (by rw [sg]; omega)
  have OM2 := lay_out (seg Z4 zo d) M1 d
  have SM2 := lay_sv (seg Z4 zo d) M1 d (by rw [sg]; omega)
  have LM2 := lay_limbs (seg Z4 zo d) (limbs_seg p2 _ _) M1 d LM1.out
  have BM2 := Blk.setCells (seg Z4 zo d) d BM8.out
  have FM2 := (Fr.refl g w8).setCells ((seg Z4 zo d).map lv) d
  rw [sg] at hcp OM2 SM2
  rw [show val (seg Z4 zo d) = val (X.take h) * val (Y.take h) from S4a.out] at SM2
  obtain ⟨w9, hw9⟩ : ∃ w9, w9 = w8.setCells g d ((seg Z4 zo d).map lv) := ⟨_, rfl⟩
  rw [← hw9] at BM2 FM2 hcp
  clear hw9 sg
  generalize lay M1 d (seg Z4 zo d) = M2 at *
  have B9 := hide (FM2.blk p3 hbzg)
  have L4 := hide p2
  have eRd : R - d = d + 1 := by omega
  have top0 : M2.getD (d + d) 0 = 0 := by
    rw [OM2.same (d + d) (by omega), OM1.out.same (d + d) (by omega), getD_zeros']
  have SM2' : sv M2 d (R - d) = val (X.take h) * val (Y.take h) := by
    rw [eRd, sv_succ _ _ _ (by rw [OM2.len]; omega), SM2, top0, Nat.mul_zero, Nat.add_zero]
  have pw := kara_pow h d (by omega)
  have hp0 : val (X.take h) * val (Y.take h) < 18446744073709551616 ^ d := by rw [pw]; exact Nat.mul_lt_mul'' HA0 HB0
  have hp1 : val (X.drop h) * val (Y.drop h) < 18446744073709551616 ^ d := by rw [pw]; exact Nat.mul_lt_mul'' HA1 HB1
  have hp2 : val (X.take h) * val (Y.drop h) < 18446744073709551616 ^ d := by rw [pw]; exact Nat.mul_lt_mul'' HA0 HB1
  have hp3 : val (X.drop h) * val (Y.take h) < 18446744073709551616 ^ d := by rw [pw]; exact Nat.mul_lt_mul'' HA1 HB0
  have HP1 := plus_any g d (R - d) (R - d) M2 _ (seg Z4 (zo + d) (n - d)) w9 BM2 LM2 (B9.out.seg_arg p2 (zo + d) (n - d) (cap - d) (by omega) (by omega) (by omega) (by omega)) (fun b' off' n' c' e => by cases e; exact .inl hbzg) (by rw [OM2.len]; omega) (Nat.le_refl _) (by omega)
    (by rw [SM2', show val (seg Z4 (zo + d) (n - d)) = _ from S4b.out, eRd]; exact kara_fit hp0 hp1)
  rw [SM2', show val (seg Z4 (zo + d) (n - d)) = _ from S4b.out] at HP1
  have F9 := hide ((HF8.out).other FM2 (by omega))
  have OM2h := hide OM2
  have HERD := hide eRd
  clear eRd top0 pw
  clear p1 p2 p3 p4 p5 HI5 HK7 hk2 hk3 hk4 hk5 HA7 HA27 HF7 BM7 O3 HX7 l3 S3 BM8 SM2 SM2' BM2 FM2 OM2 HF8
  go_wp2_with fail
  refine HP1.mono ?_
  rintro e w10 ⟨rfl, M3, p1, p2, p3, p4, p5⟩
  have lM2 := OM2h.out.len
  have lM3 := p1.len
  have B10 := hide (p4.blk B9.out hbzg)
  have SX : sv M3 0 d = da * db := by rw [p1.sv 0 d (by omega), OM2h.out.sv 0 d (by omega)]; exact SM1.out
  have F10 := hide (F9.out.other p4 (by omega))
  have HACR := p3.seg_arg p2 0 d R (by omega) (by omega) (by omega) (by omega)
  have hOacr : Off (.slice (some ⟨g, 0, none⟩) d R) g d (d + (R - d)) := fun b' off' n' c' e => by cases e; exact .inr (.inl (by omega))
  have hfit2 : val (X.take h) * val (Y.drop h) + val (X.drop h) * val (Y.take h) < 18446744073709551616 ^ (R - d) := by rw [HERD.out]; exact kara_fit hp2 hp3
  have hmid := karatsuba_mid _ _ _ _ da db HDA.out HDB.out
  have hkl := kara_le _ _ _ _ da db HDA.out HDB.out
  rw [HSA.out, HSB.out] at hmid hkl
  have HPlus := fun (hf : sv M3 d (R - d) + val (seg M3 0 d) < 18446744073709551616 ^ (R - d)) => plus_any g d (R - d) (R - d) M3 _ (seg M3 0 d) w10 p3 p2 HACR hOacr (by omega) (Nat.le_refl _) (by omega) hf
  have HMinus := fun (hf : val (seg M3 0 d) ≤ sv M3 d (R - d)) => minus_any g d (R - d) (R - d) M3 _ (seg M3 0 d) w10 p3 p2 HACR hOacr (by omega) (Nat.le_refl _) (by omega) hf
  rw [show val (seg M3 0 d) = da * db from SX, p5] at HPlus HMinus
  have TOT : Hid (val X * val Y = val (X.take h) * val (Y.take h) + 18446744073709551616 ^ d * (val (X.drop h) * val (Y.drop h)) + 18446744073709551616 ^ h * (val (X.take h) * val (Y.drop h) + val (X.drop h) * val (Y.take h))) := hide (by
    rw [vX, vY, kara_total, kara_pow h d (by omega)])
  have S4n : sv Z4 zo n = val (X.take h) * val (Y.take h) + 18446744073709551616 ^ d * (val (X.drop h) * val (Y.drop h)) := by
    rw [show n = d + (n - d) by omega, sv_split _ _ _ _ (by omega), S4a.out]
    rw [S4b.out]
  have hXY : val X * val Y < 18446744073709551616 ^ n := by
    rw [← HN.out, Nat.pow_add]; exact Nat.mul_lt_mul'' (val_lt mX) (val_lt mY)
  have hfit3 := pieces_fit Z4 zo h n (val (X.take h) * val (Y.drop h) + val (X.drop h) * val (Y.take h)) (val X * val Y) (by omega) (by omega) (by rw [S4n, TOT.out]; exact Nat.le_refl _) hXY
  have HEND := hide (fun (w11 w12 : World) (M4 Z5 : List Nat) (q4 : Fr g w10 w11) (r1 : Out Z4 Z5 (zo + h) (zo + h + (n - h))) (r2 : Limbs Z5) (r3 : Blk w12 bz Z5) (r4 : Fr bz w11 w12) (r5 : sv Z5 (zo + h) (n - h) = sv Z4 (zo + h) (n - h) + (val (X.take h) * val (Y.drop h) + val (X.drop h) * val (Y.take h))) => (by
    rw [show zo + h + (n - h) = zo + n by omega] at r1
    refine ⟨rfl, Z5, O4.out.trans (r1.wider (by omega) (Nat.le_refl _)), r2, r3, (F10.out.other q4 (by omega)).trans r4, ?_⟩
    rw [pieces_add Z4 Z5 zo h n _ (by omega) (by omega) r1 r5, S4n, TOT.out] : IntoDone bz zo n Z w (val X * val Y) (.returned (.tuple #[])) w12))
  have HLAST := hide (fun (w11 : World) (M4 : List Nat) (q1 : Out M3 M4 d (d + (R - d))) (q2 : Limbs M4) (q3 : Blk w11 g M4) (q4 : Fr g w10 w11) (q5 : sv M4 d (R - d) = (val (X.take h) * val (Y.drop h) + val (X.drop h) * val (Y.take h))) => (by
    have hv : val (seg M4 d (R - d)) = (val (X.take h) * val (Y.drop h) + val (X.drop h) * val (Y.take h)) := q5
    have h1 := plus_any bz (zo + h) (n - h) (cap - h) Z4 _ (seg M4 d (R - d)) w11 (q4.blk B10.out hbzg) L4.out (q3.seg_arg q2 d (R - d) (R - d) (by rw [q1.len]; omega) (Nat.le_refl _) (by omega) (by omega)) (fun b' off' n' c' e => by cases e; exact .inl (Ne.symm hbzg)) (by omega) (by omega) (by omega) (by rw [hv]; exact hfit3)
    rw [hv] at h1
    exact h1 : Calls Tryz.prog 130 #[.slice (some ⟨bz, zo + h, none⟩) (n - h) (cap - h), .slice (some ⟨g, d, none⟩) (R - d) (R - d)] w11 (IntoDone bz (zo + h) (n - h) Z4 w11 (sv Z4 (zo + h) (n - h) + (val (X.take h) * val (Y.drop h) + val (X.drop h) * val (Y.take h))))))
  clear S4n hXY hfit3 TOT p1 p2 p3 p4 p5 HP1 hcp HACR hOacr SX vX vY HA0 HA1 HB0 HB1 hp0 hp1
  cases sa <;> cases sb
  · have hm' : val (X.take h) * val (Y.take h) + val (X.drop h) * val (Y.drop h) - da * db = val (X.take h) * val (Y.drop h) + val (X.drop h) * val (Y.take h) := by simpa using hmid
    have hm := HMinus (hkl rfl)
    rw [hm'] at hm
    clear hm'
    have HM := hm
    clear HPlus HMinus hmid hkl hm hfit2
    go_wp2_with fail
    refine HM.mono ?_
    rintro e w11 ⟨rfl, M4, q1, q2, q3, q4, q5⟩
    have HL := HLAST.out w11 M4 q1 q2 q3 q4 q5
    have HQ := hide q4
    clear q1 q2 q3 q4 q5 HM
    go_wp2_with fail
    refine HL.mono ?_
    rintro e w12 ⟨rfl, Z5, r1, r2, r3, r4, r5⟩
    have HR := hide (HEND.out w11 w12 M4 Z5 HQ.out r1 r2 r3 r4 r5)
    clear r1 r2 r3 r4 r5 HL
    go_wp2
    go_end0
    exact HR.out
  · have hm' : val (X.take h) * val (Y.take h) + val (X.drop h) * val (Y.drop h) + da * db = val (X.take h) * val (Y.drop h) + val (X.drop h) * val (Y.take h) := by simpa using hmid
    have hm := HPlus (by rw [hm']; exact hfit2)
    rw [hm'] at hm
    clear hm'
    have HM := hm
    clear HPlus HMinus hmid hkl hm hfit2
    go_wp2_with fail
    refine HM.mono ?_
    rintro e w11 ⟨rfl, M4, q1, q2, q3, q4, q5⟩
    have HL := HLAST.out w11 M4 q1 q2 q3 q4 q5
    have HQ := hide q4
    clear q1 q2 q3 q4 q5 HM
    go_wp2_with fail
    refine HL.mono ?_
    rintro e w12 ⟨rfl, Z5, r1, r2, r3, r4, r5⟩
    have HR := hide (HEND.out w11 w12 M4 Z5 HQ.out r1 r2 r3 r4 r5)
    clear r1 r2 r3 r4 r5 HL
    go_wp2
    go_end0
    exact HR.out
  · have hm' : val (X.take h) * val (Y.take h) + val (X.drop h) * val (Y.drop h) + da * db = val (X.take h) * val (Y.drop h) + val (X.drop h) * val (Y.take h) := by simpa using hmid
    have hm := HPlus (by rw [hm']; exact hfit2)
    rw [hm'] at hm
    clear hm'
    have HM := hm
    clear HPlus HMinus hmid hkl hm hfit2
    go_wp2_with fail
    refine HM.mono ?_
    rintro e w11 ⟨rfl, M4, q1, q2, q3, q4, q5⟩
    have HL := HLAST.out w11 M4 q1 q2 q3 q4 q5
    have HQ := hide q4
    clear q1 q2 q3 q4 q5 HM
    go_wp2_with fail
    refine HL.mono ?_
    rintro e w12 ⟨rfl, Z5, r1, r2, r3, r4, r5⟩
    have HR := hide (HEND.out w11 w12 M4 Z5 HQ.out r1 r2 r3 r4 r5)
    clear r1 r2 r3 r4 r5 HL
    go_wp2
    go_end0
    exact HR.out
  · have hm' : val (X.take h) * val (Y.take h) + val (X.drop h) * val (Y.drop h) - da * db = val (X.take h) * val (Y.drop h) + val (X.drop h) * val (Y.take h) := by simpa using hmid
    have hm := HMinus (hkl rfl)
    rw [hm'] at hm
    clear hm'
    have HM := hm
    clear HPlus HMinus hmid hkl hm hfit2
    go_wp2_with fail
    refine HM.mono ?_
    rintro e w11 ⟨rfl, M4, q1, q2, q3, q4, q5⟩
    have HL := HLAST.out w11 M4 q1 q2 q3 q4 q5
    have HQ := hide q4
    clear q1 q2 q3 q4 q5 HM
    go_wp2_with fail
    refine HL.mono ?_
    rintro e w12 ⟨rfl, Z5, r1, r2, r3, r4, r5⟩
    have HR := hide (HEND.out w11 w12 M4 Z5 HQ.out r1 r2 r3 r4 r5)
    clear r1 r2 r3 r4 r5 HL
    go_wp2
    go_end0
    exact HR.out

end Go.Proofs.YtppblbhkghjphaaGreatDoor
