/- The walk of the law RootLists. -/
import Derived.Test.YtlphlcmlkibmjacGreatDoorQT
import Derived.Test.YtlphlcmlkibmjacGreatDoorQR
import Derived.Test.YtlphlcmlkibmjacGreatDoorRootBZ
import Derived.Test.YtlphlcmlkibmjacGreatDoorQH
import Derived.BigQuiet
namespace Go.Proofs.YtlphlcmlkibmjacGreatDoor
open Go.RowKit
open Lm
attribute [local go_sem ↓] Go.wp_at_zero Go.wp_at_succ

theorem IL.slice {w : World} {base : Nat} {v : Value} {zs : List Int} (h : IL w base v zs) : ∃ ao cap, v = .slice ao zs.length cap := by
  rcases h.form with ⟨rfl, rfl⟩ | ⟨g, cap, rfl, _⟩
  · exact ⟨none, 0, rfl⟩
  · exact ⟨_, cap, rfl⟩

theorem IL.at {w : World} {base cap : Nat} {ao : Option Addr} {zs : List Int} (h : IL w base (.slice ao zs.length cap) zs) (hp : 0 < zs.length) : ∃ g, ao = some ⟨g, 0, none⟩ ∧ (∀ k, w.frozen? ⟨g, k, none⟩ = false) ∧ ∀ k, k < zs.length → w.cell? ⟨g, k, none⟩ = some (.int .i64 (zs.getD k 0)) := by
  rcases h.form with ⟨_, e⟩ | ⟨g, cap', e, _, _, _, _, h3, h4⟩
  · rw [e] at hp; simp at hp
  · injection e with e1 e2 e3
    exact ⟨g, e1, h3, h4⟩

theorem sqB_list (m r : Nat) : sqB m m r = decide (0 < (rtl m r m).length) := by
  by_cases h : (rtl m r m).length = 0
  · rw [h, decide_eq_false (by omega)]
    refine sqB_miss m m r fun x hx e => ?_
    have := (rtl_mem m r m x).2 ⟨hx, e⟩
    rw [List.length_eq_zero_iff.1 h] at this
    cases this
  · rw [decide_eq_true (by omega)]
    obtain ⟨x, hx⟩ : ∃ x, x ∈ rtl m r m := by
      match h2 : rtl m r m with
      | [] => rw [h2] at h; simp at h
      | a :: t => exact ⟨a, by simp⟩
    have := (rtl_mem m r m x).1 hx
    exact sqB_hit m m r x this.1 this.2

theorem rti_getD (m r k i : Nat) : (rti m r k).getD i 0 = (((rtl m r k).getD i 0 : Nat) : Int) := by
  unfold rti
  simp only [List.getD, List.getElem?_map]
  cases (rtl m r k)[i]? <;> rfl

theorem skew_any (ao : Option Addr) (cap base m r : Nat) (w : World) (h : IL w base (.slice ao (rti m r m).length cap) (rti m r m)) :
    Calls Tryz.prog 32 #[.slice ao (rti m r m).length cap] w fun e w' => e = .returned (.int .i64 (if 0 < (rti m r m).length ∧ (rti m r m).getD 0 0 = 0 then 1 else 0)) ∧ w' = w := by
  by_cases h0 : 0 < (rti m r m).length
  · obtain ⟨g, rfl, _, hc⟩ := h.at h0
    have hc0 := hc 0 h0
    have i0 : (0 : Int) < ((rti m r m).length : Int) := by omega
    by_cases hz : (rti m r m).getD 0 0 = 0
    · rw [if_pos ⟨h0, hz⟩]
      rw [hz] at hc0
      clear h hc hz
      generalize (rti m r m).length = L at *
      go_enter Tryz.func32, Tryz.ntmps32
      go_wp2
      go_ret
      exact ⟨rfl, rfl⟩
    · rw [if_neg (fun h => hz h.2)]
      have hne : ((rti m r m).getD 0 0 == 0) = false := by rw [beq_eq_false_iff_ne]; exact hz
      clear h hc hz
      generalize (rti m r m).getD 0 0 = z at *
      generalize (rti m r m).length = L at *
      go_enter Tryz.func32, Tryz.ntmps32
      go_wp2
      go_ret
      exact ⟨rfl, rfl⟩
  · rw [if_neg (fun h => h0 h.1)]
    have e0 : (rti m r m).length = 0 := by omega
    rw [e0]
    clear h h0 e0
    go_enter Tryz.func32, Tryz.ntmps32
    go_wp2
    go_ret
    exact ⟨rfl, rfl⟩

set_option maxRecDepth 100000 in
set_option maxHeartbeats 2000000 in
theorem rootLists_none (v0 : Value) (z0 : List Nat) (m : Int) (w : World) (A0 : Arg w v0 z0) (s0 : z0.length ≤ 17592186043904) (h : m < 1 ∨ 65536 < m) :
    Calls Tryz.prog 7 #[v0, .int .i64 m] w fun e w' => e = .returned (.bool true) ∧ Below w.heap.size w w' := by
  have H : Hid (Below w.heap.size w w) := Below.refl _ _
  have HM := hide h
  clear h
  go_enter Tryz.func7, Tryz.ntmps7
  go_wp2_with fail
  refine (lend_ok _ _ _ A0 (by omega)).mono ?_
  rintro e w0 ⟨⟨vw, vp, rfl, Lw, Ap⟩, hb⟩
  replace H := hid_below H hb; replace A0 := A0.below hb; clear hb
  go_wp2_with fail
  refine (roots_no vp m w0 HM.out).mono ?_
  rintro e wn ⟨rfl, hw⟩; rw [hw]; clear hw wn
  go_wp2_with fail
  refine (roots_no vp m w0 HM.out).mono ?_
  rintro e wn ⟨rfl, hw⟩; rw [hw]; clear hw wn
  go_wp2_with fail
  refine (residue_no vp m w0 HM.out).mono ?_
  rintro e wn ⟨rfl, hw⟩; rw [hw]; clear hw wn
  have HO := of_any _ _ _ A0 (by omega)
  go_wp2_with fail
  refine HO.mono ?_
  rintro e w1 ⟨⟨vx, rfl, Nx⟩, hb⟩
  replace H := hid_below H hb; replace A0 := A0.below hb; replace Lw := Lw.below hb; clear hb HO
  go_wp2_with fail
  refine (rroots_no vx m w1 HM.out).mono ?_
  rintro e wn ⟨rfl, hw⟩; rw [hw]; clear hw wn
  go_wp2_with fail
  refine (num4_any 1 _).mono ?_
  rintro e wn ⟨rfl, hw⟩; rw [hw]; clear hw wn
  go_wp2_with fail
  refine (num4_any 1 _).mono ?_
  rintro e wn ⟨rfl, hw⟩; rw [hw]; clear hw wn
  go_wp2_with fail
  refine (num4_any 1 _).mono ?_
  rintro e wn ⟨rfl, hw⟩; rw [hw]; clear hw wn
  go_wp2_with fail
  refine (kept_ok _ _ _ _ Lw A0 (by omega)).mono ?_
  rintro e wn ⟨rfl, hw⟩; rw [hw]; clear hw wn
  clear A0 Lw Ap Nx
  go_wp2
  refine wp_loop_rounds 1 ?_
  rw [rounds_succ]
  go_wp2
  refine wp_loop_rounds 1 ?_
  rw [rounds_succ]
  have HA := awake4_any w1
  go_wp2_with fail
  refine HA.mono ?_
  rintro e w99 ⟨rfl, hb⟩
  replace H := hid_below H hb; clear hb HA
  go_wp2
  go_ret
  exact ⟨rfl, H.out⟩

set_option maxRecDepth 100000 in
set_option maxHeartbeats 4000000 in
theorem rootLists_main (v0 : Value) (z0 : List Nat) (m : Nat) (w : World) (hT : Tab w) (A0 : Arg w v0 z0) (s0 : z0.length ≤ 17592186043904) (hm0 : 0 < m) (hm : m ≤ 65536) :
    Calls Tryz.prog 7 #[v0, .int .i64 m] w fun e w' => e = .returned (.bool true) ∧ Below w.heap.size w w' := by
  have H : Hid (Below w.heap.size w w) := Below.refl _ _
  have HT := hide hT
  have bx := A0.bits s0
  clear hT
  go_enter Tryz.func7, Tryz.ntmps7
  go_wp2_with fail
  refine (lend_ok _ _ _ A0 (by omega)).mono ?_
  rintro e w0 ⟨⟨vw, vp, rfl, Lw, Ap⟩, hb⟩
  have hw0 : w.heap.size ≤ w0.heap.size := hb.size
  replace H := hid_below H hb; replace A0 := A0.below hb; clear hb
  have F1 := roots_any vp z0 m w0 Ap (HT.out.below H.out) (by omega) hm0 hm
  obtain ⟨r, hr⟩ : ∃ r, val z0 % m = r := ⟨_, rfl⟩
  have hrl : r < m := by rw [← hr]; exact Nat.mod_lt _ hm0
  rw [hr] at F1
  have HR := hide hr
  clear hr
  go_wp2_with fail
  refine F1.mono ?_
  rintro e w1 ⟨⟨vl, rfl, Il⟩, hb⟩
  replace H := hid_below H hb; replace A0 := A0.below hb; replace Ap := Ap.below hb; replace Lw := Lw.below hb
  have hs1 : w0.heap.size ≤ w1.heap.size := hb.size
  clear hb F1
  have F1 := roots_any vp z0 m w1 Ap (HT.out.below H.out) (by omega) hm0 hm
  rw [HR.out] at F1
  go_wp2_with fail
  refine F1.mono ?_
  rintro e w2 ⟨⟨vk, rfl, Ik⟩, hb⟩
  have hl1 : ∀ g, vl.ownBlock = some g → g < w1.heap.size := fun g hg => (Il.top g hg).2
  replace H := hid_below H hb; replace A0 := A0.below hb; replace Ap := Ap.below hb; replace Lw := Lw.below hb; replace Il := Il.below hb
  have hs2 : w1.heap.size ≤ w2.heap.size := hb.size
  clear hb F1
  have F1 := residue_of zero_flags vp z0 m w2 Ap (HT.out.below H.out) (by omega) hm0 hm
  rw [HR.out] at F1
  go_wp2_with fail
  refine F1.mono ?_
  rintro e w3 ⟨rfl, hb⟩
  have hk1 : ∀ g, vk.ownBlock = some g → w1.heap.size ≤ g ∧ g < w2.heap.size := fun g hg => Ik.top g hg
  replace H := hid_below H hb; replace A0 := A0.below hb; replace Lw := Lw.below hb; replace Il := Il.below hb; replace Ik := Ik.below hb
  have hs3 : w2.heap.size ≤ w3.heap.size := hb.size
  clear hb F1 Ap
  have HO := of_any _ _ _ A0 (by omega)
  go_wp2_with fail
  refine HO.mono ?_
  rintro e w4 ⟨⟨vx, rfl, Nx⟩, hb⟩
  replace H := hid_below H hb; replace A0 := A0.below hb; replace Lw := Lw.below hb; replace Il := Il.below hb; replace Ik := Ik.below hb
  have hs4 : w3.heap.size ≤ w4.heap.size := hb.size
  clear hb HO
  have F1 := rroots_any vx _ m w4 Nx bx hm0 hm
  rw [HR.out] at F1
  clear Nx
  go_wp2_with fail
  refine F1.mono ?_
  rintro e w5 ⟨⟨vn, rfl, In⟩, hb⟩
  replace H := hid_below H hb; replace A0 := A0.below hb; replace Lw := Lw.below hb; replace Il := Il.below hb; replace Ik := Ik.below hb
  have hn1 : ∀ g, vn.ownBlock = some g → w4.heap.size ≤ g := fun g hg => (In.top g hg).1
  have hbw : w0.heap.size ≤ w5.heap.size := by have := hb.size; omega
  clear hb F1
  have hlk : ∀ g, vl.ownBlock = some g → vk.ownBlock ≠ some g ∧ vn.ownBlock ≠ some g := fun g hg => ⟨fun h => by have := hl1 g hg; have := hk1 g h; omega, fun h => by have := hl1 g hg; have := hn1 g h; omega⟩
  clear hl1 hk1 hn1 hs1 hs2 hs3 hs4
  obtain ⟨al, cl, rfl⟩ := Il.slice
  obtain ⟨ak, ck, rfl⟩ := Ik.slice
  obtain ⟨an, cn, rfl⟩ := In.slice
  have hLm := rti_le m r m
  have hsq := sqB_list m r
  have SK := hide (fun (W : World) (h : IL W w4.heap.size (.slice an (rti m r m).length cn) (rti m r m)) => skew_any an cn w4.heap.size m r W h)
  have OPP : Hid (∀ i, i < (rti m r m).length → 0 < (rti m r m).getD i 0 → ∃ j : Nat, j < (rti m r m).length ∧ (rti m r m).getD j 0 = (m : Int) - (rti m r m).getD i 0 ∧ (if (rti m r m).getD 0 0 = 0 then j + i = (rti m r m).length else j + i + 1 = (rti m r m).length)) := by
    have hlen : (rti m r m).length = (rtl m r m).length := by unfold rti; rw [List.length_map]
    refine hide fun i hi h0 => ?_
    rw [rti_getD] at h0
    obtain ⟨j, j1, j2, j3⟩ := opp_get (m := m) (r := r) i (by omega) (by omega)
    have hlt : (rtl m r m).getD i 0 < m := by
      have hi' : i < (rtl m r m).length := by omega
      have : (rtl m r m).getD i 0 = (rtl m r m)[i] := by simp [List.getD, hi']
      rw [this]
      exact ((rtl_mem m r m _).1 (List.getElem_mem hi')).1
    refine ⟨j, by omega, by rw [rti_getD, rti_getD, j2]; omega, ?_⟩
    rw [rti_getD, hlen]
    by_cases hz : (rtl m r m).getD 0 0 = 0
    · rw [if_pos hz] at j3
      rw [if_pos (by omega)]; exact j3
    · rw [if_neg hz] at j3
      rw [if_neg (by omega)]; exact j3
  have BND : Hid (∀ i, 0 ≤ (rti m r m).getD i 0 ∧ (rti m r m).getD i 0 ≤ 65536) := hide fun i => by
    rw [rti_getD]
    refine ⟨by omega, ?_⟩
    by_cases hi : i < (rtl m r m).length
    · have e : (rtl m r m).getD i 0 = (rtl m r m)[i] := by simp [List.getD, hi]
      have := ((rtl_mem m r m _).1 (List.getElem_mem hi)).1
      omega
    · have e : (rtl m r m).getD i 0 = 0 := by simp [List.getD, Nat.le_of_not_lt hi]
      omega
  rw [show (rtl m r m).length = (rti m r m).length by unfold rti; rw [List.length_map]] at hsq
  rw [hsq]
  generalize rti m r m = S at *
  obtain ⟨L, hL⟩ : ∃ L, S.length = L := ⟨_, rfl⟩
  rw [hL] at Il Ik In SK OPP hLm hlk ⊢
  have hne : ((L : Int) != (L : Int)) = false := by simp
  have HL := hide hL
  have HIL := hide (And.intro Il (And.intro Ik In))
  have HLK := hide hlk
  have HA0 := hide (And.intro Lw A0)
  clear hsq Il Ik In hlk hL Lw A0
  go_wp2_with fail
  refine (num4_any 0 _).mono ?_
  rintro e wn ⟨rfl, hw⟩; rw [hw]; clear hw wn
  go_wp2_with fail
  refine (num4_any 0 _).mono ?_
  rintro e wn ⟨rfl, hw⟩; rw [hw]; clear hw wn
  go_wp2_with fail
  refine (num4_any 0 _).mono ?_
  rintro e wn ⟨rfl, hw⟩; rw [hw]; clear hw wn
  go_wp2_with fail
  refine (kept_ok _ _ _ _ HA0.out.1 HA0.out.2 (by omega)).mono ?_
  rintro e wn ⟨rfl, hw⟩; rw [hw]; clear hw wn
  clear HA0
  go_wp2
  go_loopw [85] (fun i wr => ∃ (k : Nat) (zs : List Int), i = .int .i64 (k : Int) ∧ k ≤ L ∧ zs.length = L ∧ (∀ j, k ≤ j → zs.getD j 0 = S.getD j 0) ∧ IL wr w0.heap.size (.slice al L cl) zs ∧ IL wr w1.heap.size (.slice ak L ck) S ∧ IL wr w4.heap.size (.slice an L cn) S ∧ Below w.heap.size w wr) (fun i _ => (65537 - intOf i).toNat)
  case atStart => exact ⟨0, S, rfl, Nat.zero_le _, HL.out, fun _ _ => rfl, HIL.out.1, HIL.out.2.1, HIL.out.2.2, H.out⟩
  case round =>
    obtain ⟨k, zs, rfl, hk, hzl, hzs, Il, Ik, In, hbel⟩ := hrel
    clear HIL H
    have H := hide hbel
    by_cases hkL : k < L
    · obtain ⟨gl, rfl, fl, cel⟩ := IL.at (zs := zs) (by rw [hzl]; exact Il) (by omega)
      obtain ⟨gn, rfl, _, cen⟩ := IL.at (zs := S) (by rw [HL.out]; exact In) (by rw [HL.out]; omega)
      have i1 : (k : Int) < (L : Int) := by omega
      have i0 : (0 : Int) ≤ (k : Int) := by omega
      have wk : IntKind.i64.wrap (k : Int) = (k : Int) := by rw [IntKind.wrap_i64]; omega
      have c1 := cel k (by omega)
      have c2 := cen k (by rw [HL.out]; omega)
      have ff := fl k
      rw [hzs k (Nat.le_refl _)] at c1
      have hnb : ((S.getD k 0) != (S.getD k 0)) = false := by simp
      obtain ⟨hk2, hn2⟩ := HLK.out gl rfl
      have HN : Hid (∀ W, Same wr W → IL (W.setCell ⟨gl, k, none⟩ (.int .i64 (-1))) w0.heap.size (.slice (some ⟨gl, 0, none⟩) L cl) (zs.set k (-1)) ∧ IL (W.setCell ⟨gl, k, none⟩ (.int .i64 (-1))) w1.heap.size (.slice ak L ck) S ∧ IL (W.setCell ⟨gl, k, none⟩ (.int .i64 (-1))) w4.heap.size (.slice (some ⟨gn, 0, none⟩) L cn) S ∧ Below w.heap.size w (W.setCell ⟨gl, k, none⟩ (.int .i64 (-1)))) := hide (by
        intro W hW
        have Il := Il.below (hW.below _)
        have Ik := Ik.below (hW.below _)
        have In := In.below (hW.below _)
        have hbW := hbel.trans (hW.below _)
        refine ⟨?_, Ik.apart gl k _ hk2, In.apart gl k _ hn2, ?_⟩
        · rw [← hzl] at Il
          have h := Il.stored k (-1)
          rw [List.length_set, hzl] at h
          exact h
        · exact hbW.setCell (p := ⟨gl, k, none⟩) (by have := (Il.top gl rfl).1; show w.heap.size ≤ gl; omega) _)
      have HZS := hide (show (zs.set k (-1)).length = L ∧ ∀ j, k + 1 ≤ j → (zs.set k (-1)).getD j 0 = S.getD j 0 from ⟨by rw [List.length_set]; exact hzl, fun j hj => by
        rw [← hzs j (by omega)]
        simp only [List.getD, List.getElem?_set]
        rw [if_neg (by omega)]⟩)
      generalize S.getD k 0 = sk at *
      clear hzs Il Ik In cel cen fl hbel H
      go_wp2
      go_quiet (fail)
      go_wp2
      go_roundw
      case rel => exact ⟨k + 1, zs.set k (-1), by go_num, by omega, HZS.out.1, HZS.out.2, (HN.out _ ((Same.refl _).drewN _)).1, (HN.out _ ((Same.refl _).drewN _)).2.1, (HN.out _ ((Same.refl _).drewN _)).2.2.1, (HN.out _ ((Same.refl _).drewN _)).2.2.2⟩
      case measure => simp [intOf]; omega
    · have HIL := hide (And.intro Ik In)
      have i1 : ¬ (k : Int) < (L : Int) := by omega
      clear Il Ik In hzs hzl hbel HLK
      go_wp2
      go_loopw [103] (fun i wr => ∃ (k : Nat), i = .int .i64 (k : Int) ∧ k ≤ L ∧ IL wr w1.heap.size (.slice ak L ck) S ∧ IL wr w4.heap.size (.slice an L cn) S ∧ Below w.heap.size w wr) (fun i _ => (65537 - intOf i).toNat)
      case atStart => exact ⟨0, rfl, Nat.zero_le _, HIL.out.1, HIL.out.2, H.out⟩
      case round =>
        clear hkL i1 hk HIL H
        obtain ⟨k, rfl, hk, Ik, In, hbel⟩ := hrel
        have H := hide hbel
        have HIL := hide (And.intro Ik In)
        by_cases hkL : k < L
        · obtain ⟨gk, rfl, _, cek⟩ := IL.at (zs := S) (by rw [HL.out]; exact Ik) (by rw [HL.out]; omega)
          obtain ⟨gn, rfl, _, cen⟩ := IL.at (zs := S) (by rw [HL.out]; exact In) (by rw [HL.out]; omega)
          have i1 : (k : Int) < (L : Int) := by omega
          have i0 : (0 : Int) ≤ (k : Int) := by omega
          have wk : IntKind.i64.wrap (k : Int) = (k : Int) := by rw [IntKind.wrap_i64]; omega
          have c1 := cek k (by rw [HL.out]; omega)
          have c2 := cen k (by rw [HL.out]; omega)
          have hnb : ((S.getD k 0) != (S.getD k 0)) = false := by simp
          have hbd := BND.out k
          by_cases hz : 0 < S.getD k 0
          · obtain ⟨j, hj, hjv, hjs⟩ := OPP.out k hkL hz
            have c3 := cek j (by rw [HL.out]; omega)
            rw [hjv] at c3
            obtain ⟨sv, hsv, hsv2⟩ : ∃ sv : Int, (if 0 < L ∧ S.getD 0 0 = 0 then (1 : Int) else 0) = sv ∧ (L : Int) - 1 - (k : Int) + sv = (j : Int) ∧ 0 ≤ sv ∧ sv ≤ 1 := by
              refine ⟨_, rfl, ?_⟩
              by_cases h00 : S.getD 0 0 = 0
              · rw [if_pos h00] at hjs; rw [if_pos ⟨by omega, h00⟩]; omega
              · rw [if_neg h00] at hjs; rw [if_neg (fun h => h00 h.2)]; omega
            have Q : ∀ n, Calls Tryz.prog 32 #[.slice (some ⟨gn, 0, none⟩) L cn] (wr.drewN n) fun e w' => e = .returned (.int .i64 sv) ∧ w' = wr.drewN n := by
              intro n
              rw [← hsv]
              exact SK.out _ (HIL.out.2.below (((Same.refl _).drewN n).below _))
            obtain ⟨hs1, hs2, hs3⟩ := hsv2
            have e1 : IntKind.i64.wrap ((L : Int) - 1) = (L : Int) - 1 := by rw [IntKind.wrap_i64]; omega
            have e2 : IntKind.i64.wrap ((L : Int) - 1 - (k : Int)) = (L : Int) - 1 - (k : Int) := by rw [IntKind.wrap_i64]; omega
            have e3 : IntKind.i64.wrap ((L : Int) - 1 - (k : Int) + sv) = (j : Int) := by rw [hs1, IntKind.wrap_i64]; omega
            have e4 : IntKind.i64.wrap ((m : Int) - S.getD k 0) = (m : Int) - S.getD k 0 := by rw [IntKind.wrap_i64]; omega
            have j1 : (j : Int) < (L : Int) := by omega
            have j0 : (0 : Int) ≤ (j : Int) := by omega
            have hnb2 : (((m : Int) - S.getD k 0) != ((m : Int) - S.getD k 0)) = false := by simp
            have hz2 := hz
            generalize S.getD k 0 = sk at *
            clear Ik In cek cen hbel hjs hsv
            go_wp2
            go_quiet (first | (go_at_call 32; exact (Q _).mono (fun _ _ h => ⟨h.1, _, h.2⟩)))
            go_wp2
            go_roundw
            case rel => exact ⟨k + 1, by go_num, by omega, HIL.out.1.below (((Same.refl _).drewN _).below _), HIL.out.2.below (((Same.refl _).drewN _).below _), H.out.trans (((Same.refl _).drewN _).below _)⟩
            case measure => simp [intOf]; omega
          · have hz0 : S.getD k 0 = 0 := by omega
            rw [hz0] at c1 c2
            clear Ik In cek cen hbel hz hbd hnb
            go_wp2
            go_quiet (fail)
            go_wp2
            go_roundw
            case rel => exact ⟨k + 1, by go_num, by omega, HIL.out.1.below (((Same.refl _).drewN _).below _), HIL.out.2.below (((Same.refl _).drewN _).below _), H.out.trans (((Same.refl _).drewN _).below _)⟩
            case measure => simp [intOf]; omega
        · have i1 : ¬ (k : Int) < (L : Int) := by omega
          have hbq : (decide (0 < L) == decide ((0 : Int) < (L : Int))) = true := by
            rw [beq_iff_eq, decide_eq_decide]; omega
          clear Ik In hbel HIL
          have HA := awake4_any wr
          go_wp2_with fail
          refine HA.mono ?_
          rintro e w99 ⟨rfl, hb⟩
          replace H := hid_below H hb; clear hb HA
          go_wp2
          go_ret
          exact ⟨rfl, H.out⟩

theorem rootLists_walk (v0 : Value) (z0 : List Nat) (m : Int) (w : World) (hT : Tab w) (A0 : Arg w v0 z0) (s0 : z0.length ≤ 17592186043904) (_ : -9223372036854775808 ≤ m) (_ : m ≤ 9223372036854775807) :
    Calls Tryz.prog 7 #[v0, .int .i64 m] w fun e w' => e = .returned (.bool true) ∧ Below w.heap.size w w' := by
  by_cases h : m < 1 ∨ 65536 < m
  · exact rootLists_none v0 z0 m w A0 s0 h
  · obtain ⟨k, rfl⟩ : ∃ k : Nat, m = (k : Int) := ⟨m.toNat, by omega⟩
    exact rootLists_main v0 z0 k w hT A0 s0 (by omega) (by omega)

end Go.Proofs.YtlphlcmlkibmjacGreatDoor
