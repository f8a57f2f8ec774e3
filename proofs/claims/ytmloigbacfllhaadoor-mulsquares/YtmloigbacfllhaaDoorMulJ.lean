/- Package mul: apart. -/
import Derived.Test.YtmloigbacfllhaaDoorMulI
import Derived.Laws.IdiomCopy
namespace Go.Proofs.YtmloigbacfllhaaDoor
open Go.RowKit
open Lm

theorem sizeU : (Tryd.prog.info? 38).map (·.size) = some 1 := by kernel_rfl

/-- 'copy' of limbs into a piece. -/
theorem copy_run (bz zo n cap : Nat) (Z : List Nat) (a1 : Option Addr) (c1 : Nat) (X : List Nat) (w : World) (ty : TypeId) (hB : Blk w bz Z) (hz : zo + n ≤ Z.length) (hl : Lies w a1 X) (hX : X.length ≤ n) :
    (Builtin.copy_ #[23, 23] ty #[.slice (some ⟨bz, zo, none⟩) n cap, .slice a1 X.length c1]).run Tryd.prog w = .ok (.int .i64 (X.length : Int)) (w.setCells bz zo (X.map lv)) := by
  rcases hl with rfl | ⟨b, off, rfl, hc⟩
  · rw [run_copy_none w _ _ ty _ _ _ _ _ _ _ Tryd.underlying23 sizeU (by simp)]
    rfl
  · have hm : (X.map lv).length = Nat.min X.length n := by
      rw [List.length_map]; exact (Nat.min_eq_left hX).symm
    rw [run_copy_cells w _ _ ty _ bz zo n cap ⟨b, off, none⟩ X.length c1 (X.map lv) Tryd.underlying23 sizeU hm ?_ ?_ ?_ ?_]
    · rw [List.length_map]; rfl
    · intro j v hv
      rw [List.getElem?_map] at hv
      have hj : j < X.length := by
        refine Nat.lt_of_not_le fun hle => ?_
        rw [List.getElem?_eq_none hle] at hv; cases hv
      rw [List.getElem?_eq_getElem hj] at hv
      have := hc j hj
      rw [show (⟨b, off, none⟩ : Addr).add j = ⟨b, off + j, none⟩ by simp [Addr.add], this, ← hv]
      simp [lv, List.getD, hj]
    · intro j hj
      rw [List.length_map] at hj
      rw [hB.cell (zo + j) (by omega)]; rfl
    · intro j _
      exact hB.free (zo + j)
    · intro v hv
      obtain ⟨z, _, rfl⟩ := List.mem_map.1 hv
      rfl

theorem clear_none (ad : Option Addr) (c : Nat) (w : World) (ty : TypeId) : (Builtin.clear_ #[23] ty #[.slice ad 0 c]).run Tryd.prog w = .ok (.tuple #[]) w := by
  cases ad <;> simp [Builtin.clear_, run_underlying Tryd.underlying23]

/-- What 'apart' does. -/
def ApartDone (bz zo n : Nat) (Z : List Nat) (w : World) (x y : Nat) (e : Ending) (w' : World) : Prop :=
  e = .returned (.bool (decide (x < y))) ∧ ∃ Z' : List Nat, Out Z Z' zo (zo + n) ∧ Limbs Z' ∧ Blk w' bz Z' ∧ Fr bz w w' ∧ sv Z' zo n = (if x < y then y - x else x - y)

theorem Fr.same {bz : Nat} {w w' : World} (h : Same w w') : Fr bz w w' := Fr.of_below (h.below _)

set_option maxHeartbeats 1000000 in
theorem apart_any (bz zo n cap : Nat) (Z : List Nat) (va vb : Value) (X Y : List Nat) (w : World) (hB : Blk w bz Z) (hLZ : Limbs Z) (hA : Arg w va X) (hA2 : Arg w vb Y)
    (ho : Off va bz zo (zo + n)) (ho2 : Off vb bz zo (zo + n)) (hzo : zo + n ≤ Z.length) (hc1 : n ≤ cap) (hc2 : cap ≤ 9223372036854775807) (hfX : val X < 18446744073709551616 ^ n) (hfY : val Y < 18446744073709551616 ^ n) :
    Calls Tryd.prog 87 #[.slice (some ⟨bz, zo, none⟩) n cap, va, vb] w (ApartDone bz zo n Z w (val X) (val Y)) := by
  have HC := compare_any va vb X Y w hA hA2
  obtain ⟨a1, c1, rfl, _⟩ := hA.form
  obtain ⟨a2, c2, rfl, _⟩ := hA2.form
  by_cases hlt : val X < val Y
  · rw [cmpN_lt hlt] at HC
    have hPQ : val X ≤ val Y := by omega
    have HLT := hide hlt
    go_enter Tryd.func87, Tryd.ntmps87
    go_wp2_with fail
    clear hlt
    have hfP := hfY
    have APP := hA2
    have AQQ := hA
    have hoP := ho2
    have hoQ := ho
    clear hA hA2 ho ho2 hfX hfY
    -- Y is laid, X taken from it
    refine HC.mono ?_
    rintro e w1 ⟨rfl, hs⟩
    have hbl := hs.below w.heap.size
    have hB1 : Blk w1 bz Z := by unfold Blk; rw [hbl.block bz hB.lt]; exact hB
    have A1 := APP.below hbl
    have A2 := AQQ.below hbl
    have F1 := hide (Fr.same (bz := bz) hs)
    obtain ⟨b1, k1, e1, hcc1, hcm1, hl1⟩ := A1.form
    have HT := mtrim_any b1 k1 Y w1 hcc1 hcm1 hl1
    have hle := tr_length_le Y
    have hln := tr_len_lt Y n hfP
    have hcp := fun ty => copy_run bz zo n cap Z b1 k1 (tr Y) w1 ty hB1 hzo hl1.tr hln
    have hO2 := lay_out (tr Y) Z zo
    have hS2 := lay_sv (tr Y) Z zo (by omega)
    have hL2 := lay_limbs (tr Y) (limbs_tr A1.limbs) Z zo hLZ
    have hB2 := Blk.setCells (tr Y) zo hB1
    have hF2 := (Fr.refl bz w1).setCells ((tr Y).map lv) zo
    cases e1
    rw [val_tr] at hS2
    generalize tr Y = T at *
    obtain ⟨w2, hw2⟩ : ∃ w2, w2 = w1.setCells bz zo (T.map lv) := ⟨_, rfl⟩
    rw [← hw2] at hB2 hF2 hcp
    clear hw2
    generalize lay Z zo T = Z2 at *
    -- behind 'clear'
    obtain ⟨w3, Z3, hrun, hO3, hL3, hB3, hF3, hS3⟩ : ∃ (w3 : World) (Z3 : List Nat), (∀ ty, (Builtin.clear_ #[23] ty #[.slice (if cap = T.length then some ⟨bz, zo, none⟩ else some ⟨bz, zo + T.length, none⟩) (n - T.length) (cap - T.length)]).run Tryd.prog w2 = .ok (.tuple #[]) w3) ∧ Out Z Z3 zo (zo + n) ∧ Limbs Z3 ∧ Blk w3 bz Z3 ∧ Fr bz w1 w3 ∧ sv Z3 zo n = val Y := by
      have hlen2 := hO2.len
      rcases Nat.eq_zero_or_pos (n - T.length) with h0 | h0
      · refine ⟨w2, Z2, fun ty => ?_, hO2.wider (Nat.le_refl _) (by omega), hL2, hB2, hF2, ?_⟩
        · rw [h0]; exact clear_none _ _ _ _
        · rw [show n = T.length by omega]; exact hS2
      · have hcne : ¬ cap = T.length := by omega
        have hlr : (List.replicate (n - T.length) 0).length = n - T.length := by simp
        have e1 := lay_out (List.replicate (n - T.length) 0) Z2 (zo + T.length)
        have e2 := lay_sv (List.replicate (n - T.length) 0) Z2 (zo + T.length) (by rw [hlr]; omega)
        rw [hlr] at e1 e2
        refine ⟨_, lay Z2 (zo + T.length) (List.replicate (n - T.length) 0), fun ty => by rw [if_neg hcne]; exact clear_run bz (zo + T.length) _ _ Z2 w2 ty hB2 (by omega) h0, (hO2.wider (Nat.le_refl _) (by omega)).trans (e1.wider (by omega) (by omega)), lay_limbs _ (limbs_replicate _) _ _ hL2, Blk.setCells _ _ hB2, hF2.setCells _ _, ?_⟩
        have key : sv (lay Z2 (zo + T.length) (List.replicate (n - T.length) 0)) zo (T.length + (n - T.length)) = val Y := by
          rw [sv_split _ _ _ _ (by rw [lay_length]; omega), e2, e1.sv zo T.length (by omega), hS2, val_replicate]; simp
        rw [show T.length + (n - T.length) = n by omega] at key
        exact key
    have HM := minus_any bz zo n cap Z3 _ X w3 hB3 hL3 (A2.fr hoQ hF3 hB1 hB3 hO3) hoQ (by rw [hO3.len]; exact hzo) hc1 hc2 (by rw [hS3]; exact hPQ)
    rw [hS3] at HM
    have HO3 := hide hO3
    have HF3 := hide (F1.out.trans hF3)
    have hkn : T.length ≤ n := hln
    have hkc : T.length ≤ cap := by omega
    have k1' : (0 : Int) ≤ (T.length : Int) := by omega
    have k2' : (T.length : Int) ≤ (n : Int) := by omega
    clear hB1 A1 A2 hl1 hO2 hS2 hL2 hB2 hF2 hO3 hL3 hB3 hF3 hS3 F1 hs hbl hB hLZ APP AQQ hoP hoQ
    clear HC
    by_cases hcT : cap = T.length
    · have hnT : n = T.length := by omega
      subst hnT
      subst hcT
      simp only [if_true, Nat.sub_self] at hrun
      clear hkc hkn hln hc1 k2' hfP
      go_wp2_with fail
      refine HT.mono ?_
      rintro e w4 ⟨rfl, hw⟩; subst hw
      clear HT
      go_wp2_with fail
      refine HM.mono ?_
      rintro e w5 ⟨rfl, Z', q1, q2, q3, q4, q5⟩
      have HD := hide (And.intro (HO3.out.trans q1) (And.intro q2 (And.intro q3 (And.intro (HF3.out.trans q4) q5))))
      clear q1 q2 q3 q4 q5 HM hcp hrun
      go_wp2
      go_ret
      obtain ⟨q1, q2, q3, q4, q5⟩ := HD.out
      have hlt := HLT.out
      exact ⟨by simp [hlt], Z', q1, q2, q3, q4, by rw [if_pos hlt]; exact q5⟩
    · simp only [hcT, if_false] at hrun
      go_wp2_with fail
      refine HT.mono ?_
      rintro e w4 ⟨rfl, hw⟩; subst hw
      clear HT
      go_wp2_with fail
      refine HM.mono ?_
      rintro e w5 ⟨rfl, Z', q1, q2, q3, q4, q5⟩
      have HD := hide (And.intro (HO3.out.trans q1) (And.intro q2 (And.intro q3 (And.intro (HF3.out.trans q4) q5))))
      clear q1 q2 q3 q4 q5 HM hcp hrun
      go_wp2
      go_ret
      obtain ⟨q1, q2, q3, q4, q5⟩ := HD.out
      have hlt := HLT.out
      exact ⟨by simp [hlt], Z', q1, q2, q3, q4, by rw [if_pos hlt]; exact q5⟩
  · have hc : decide (cmpN (val X) (val Y) < 0) = false := by
      unfold cmpN; rw [if_neg hlt]; split <;> decide
    have hPQ : val Y ≤ val X := by omega
    have HLT := hide hlt
    generalize cmpN (val X) (val Y) = cc at *
    go_enter Tryd.func87, Tryd.ntmps87
    go_wp2_with fail
    clear hlt
    have hfP := hfX
    have APP := hA
    have AQQ := hA2
    have hoP := ho
    have hoQ := ho2
    clear hA hA2 ho ho2 hfX hfY
    -- X is laid, Y taken from it
    refine HC.mono ?_
    rintro e w1 ⟨rfl, hs⟩
    have hbl := hs.below w.heap.size
    have hB1 : Blk w1 bz Z := by unfold Blk; rw [hbl.block bz hB.lt]; exact hB
    have A1 := APP.below hbl
    have A2 := AQQ.below hbl
    have F1 := hide (Fr.same (bz := bz) hs)
    obtain ⟨b1, k1, e1, hcc1, hcm1, hl1⟩ := A1.form
    have HT := mtrim_any b1 k1 X w1 hcc1 hcm1 hl1
    have hle := tr_length_le X
    have hln := tr_len_lt X n hfP
    have hcp := fun ty => copy_run bz zo n cap Z b1 k1 (tr X) w1 ty hB1 hzo hl1.tr hln
    have hO2 := lay_out (tr X) Z zo
    have hS2 := lay_sv (tr X) Z zo (by omega)
    have hL2 := lay_limbs (tr X) (limbs_tr A1.limbs) Z zo hLZ
    have hB2 := Blk.setCells (tr X) zo hB1
    have hF2 := (Fr.refl bz w1).setCells ((tr X).map lv) zo
    cases e1
    rw [val_tr] at hS2
    generalize tr X = T at *
    obtain ⟨w2, hw2⟩ : ∃ w2, w2 = w1.setCells bz zo (T.map lv) := ⟨_, rfl⟩
    rw [← hw2] at hB2 hF2 hcp
    clear hw2
    generalize lay Z zo T = Z2 at *
    -- behind 'clear'
    obtain ⟨w3, Z3, hrun, hO3, hL3, hB3, hF3, hS3⟩ : ∃ (w3 : World) (Z3 : List Nat), (∀ ty, (Builtin.clear_ #[23] ty #[.slice (if cap = T.length then some ⟨bz, zo, none⟩ else some ⟨bz, zo + T.length, none⟩) (n - T.length) (cap - T.length)]).run Tryd.prog w2 = .ok (.tuple #[]) w3) ∧ Out Z Z3 zo (zo + n) ∧ Limbs Z3 ∧ Blk w3 bz Z3 ∧ Fr bz w1 w3 ∧ sv Z3 zo n = val X := by
      have hlen2 := hO2.len
      rcases Nat.eq_zero_or_pos (n - T.length) with h0 | h0
      · refine ⟨w2, Z2, fun ty => ?_, hO2.wider (Nat.le_refl _) (by omega), hL2, hB2, hF2, ?_⟩
        · rw [h0]; exact clear_none _ _ _ _
        · rw [show n = T.length by omega]; exact hS2
      · have hcne : ¬ cap = T.length := by omega
        have hlr : (List.replicate (n - T.length) 0).length = n - T.length := by simp
        have e1 := lay_out (List.replicate (n - T.length) 0) Z2 (zo + T.length)
        have e2 := lay_sv (List.replicate (n - T.length) 0) Z2 (zo + T.length) (by rw [hlr]; omega)
        rw [hlr] at e1 e2
        refine ⟨_, lay Z2 (zo + T.length) (List.replicate (n - T.length) 0), fun ty => by rw [if_neg hcne]; exact clear_run bz (zo + T.length) _ _ Z2 w2 ty hB2 (by omega) h0, (hO2.wider (Nat.le_refl _) (by omega)).trans (e1.wider (by omega) (by omega)), lay_limbs _ (limbs_replicate _) _ _ hL2, Blk.setCells _ _ hB2, hF2.setCells _ _, ?_⟩
        have key : sv (lay Z2 (zo + T.length) (List.replicate (n - T.length) 0)) zo (T.length + (n - T.length)) = val X := by
          rw [sv_split _ _ _ _ (by rw [lay_length]; omega), e2, e1.sv zo T.length (by omega), hS2, val_replicate]; simp
        rw [show T.length + (n - T.length) = n by omega] at key
        exact key
    have HM := minus_any bz zo n cap Z3 _ Y w3 hB3 hL3 (A2.fr hoQ hF3 hB1 hB3 hO3) hoQ (by rw [hO3.len]; exact hzo) hc1 hc2 (by rw [hS3]; exact hPQ)
    rw [hS3] at HM
    have HO3 := hide hO3
    have HF3 := hide (F1.out.trans hF3)
    have hkn : T.length ≤ n := hln
    have hkc : T.length ≤ cap := by omega
    have k1' : (0 : Int) ≤ (T.length : Int) := by omega
    have k2' : (T.length : Int) ≤ (n : Int) := by omega
    clear hB1 A1 A2 hl1 hO2 hS2 hL2 hB2 hF2 hO3 hL3 hB3 hF3 hS3 F1 hs hbl hB hLZ APP AQQ hoP hoQ
    clear HC
    by_cases hcT : cap = T.length
    · have hnT : n = T.length := by omega
      subst hnT
      subst hcT
      simp only [if_true, Nat.sub_self] at hrun
      clear hkc hkn hln hc1 k2' hfP
      go_wp2_with fail
      refine HT.mono ?_
      rintro e w4 ⟨rfl, hw⟩; subst hw
      clear HT
      go_wp2_with fail
      refine HM.mono ?_
      rintro e w5 ⟨rfl, Z', q1, q2, q3, q4, q5⟩
      have HD := hide (And.intro (HO3.out.trans q1) (And.intro q2 (And.intro q3 (And.intro (HF3.out.trans q4) q5))))
      clear q1 q2 q3 q4 q5 HM hcp hrun
      go_wp2
      go_ret
      obtain ⟨q1, q2, q3, q4, q5⟩ := HD.out
      have hlt := HLT.out
      exact ⟨by simp [hlt], Z', q1, q2, q3, q4, by rw [if_neg hlt]; exact q5⟩
    · simp only [hcT, if_false] at hrun
      go_wp2_with fail
      refine HT.mono ?_
      rintro e w4 ⟨rfl, hw⟩; subst hw
      clear HT
      go_wp2_with fail
      refine HM.mono ?_
      rintro e w5 ⟨rfl, Z', q1, q2, q3, q4, q5⟩
      have HD := hide (And.intro (HO3.out.trans q1) (And.intro q2 (And.intro q3 (And.intro (HF3.out.trans q4) q5))))
      clear q1 q2 q3 q4 q5 HM hcp hrun
      go_wp2
      go_ret
      obtain ⟨q1, q2, q3, q4, q5⟩ := HD.out
      have hlt := HLT.out
      exact ⟨by simp [hlt], Z', q1, q2, q3, q4, by rw [if_neg hlt]; exact q5⟩

end Go.Proofs.YtmloigbacfllhaaDoor
