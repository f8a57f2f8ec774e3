/- Package rounded: what its functions share: boxes of three cells; isPosition, fault, isZero, limb, beside. -/
import Derived.Test.YtppblbhkghjphaaGreatDoorQ2
import Derived.Deep.RegionHeld3
import Derived.Test.YtppblbhkghjphaaGreatDoorQA
import Derived.Test.YtppblbhkghjphaaGreatDoorQB
import Derived.BigQuiet
import Derived.Laws.Bits128
import Derived.Test.YtppblbhkghjphaaGreatDoorQ9
import Derived.Test.YtppblbhkghjphaaGreatDoorQJ
import Derived.Test.YtppblbhkghjphaaGreatDoorQM
import Derived.Deep.CutBlock
import Derived.Deep.DeepCutAuto
import Derived.Test.YtppblbhkghjphaaGreatDoorQU
import Derived.Test.YtppblbhkghjphaaGreatDoorQG
import Derived.Test.YtppblbhkghjphaaGreatDoorQR
namespace Go.Proofs.YtppblbhkghjphaaGreatDoor
open Go.RowKit
open Lm
attribute [local go_sem ↓] Go.wp_at_zero Go.wp_at_succ

theorem Ans.off8 {w : World} {base g o : Nat} {v u : Value} {zs : List Nat} {vs : Array Value} {t : TypeId} (h : Ans w base v zs) (hl : w.heap[g]? = some (.cells vs t)) (ht : t ≠ 32) : Ans (w.setCell ⟨g, o, none⟩ u) base v zs := by
  refine ⟨?_, h.limbs⟩
  obtain ⟨h1, h2⟩ := h.own
  refine ⟨h1, ?_⟩
  rcases h2 with h2 | ⟨g', cap, cur, hv, hg, hh, r⟩
  · exact .inl h2
  · refine .inr ⟨g', cap, cur, hv, hg, ?_, r⟩
    rw [Below.heap_setCell _ _ _ _ ?_]
    · exact hh
    · rintro rfl
      rw [hh] at hl
      simp only [Option.some.injEq, Obj.cells.injEq] at hl
      exact ht hl.2.1.symm

theorem tri8_all {w : World} {g : Nat} {a b c : Value} {t : TypeId} (h : w.heap[g]? = some (.cells #[a, b, c] t)) (u0 u1 u2 : Value) : (((w.setCell ⟨g, 0, none⟩ u0).setCell ⟨g, 1, none⟩ u1).setCell ⟨g, 2, none⟩ u2).heap[g]? = some (.cells #[u0, u1, u2] t) :=
  box_modify (box_modify (box_modify h u0) u1) u2

theorem tri8 {w : World} {g : Nat} {a b c : Value} {t : TypeId} (h : w.heap[g]? = some (.cells #[a, b, c] t)) : w.cell? ⟨g, 0, none⟩ = some a ∧ w.cell? ⟨g, 1, none⟩ = some b ∧ w.cell? ⟨g, 2, none⟩ = some c := ⟨by simp [World.cell?, h], by simp [World.cell?, h], by simp [World.cell?, h]⟩

theorem tri8f {w : World} {g : Nat} {a b c : Value} {t : TypeId} (h : w.heap[g]? = some (.cells #[a, b, c] t)) : ∀ k, w.frozen? ⟨g, k, none⟩ = false := fun k => by simp [World.frozen?, h]

theorem Ans.tri8 {w : World} {base g : Nat} {v a0 a1 a2 : Value} {zs : List Nat} {t : TypeId} (h : Ans w base v zs) (hl : w.heap[g]? = some (.cells #[a0, a1, a2] t)) (ht : t ≠ 32) (u0 u1 u2 : Value) : Ans (((w.setCell ⟨g, 0, none⟩ u0).setCell ⟨g, 1, none⟩ u1).setCell ⟨g, 2, none⟩ u2) base v zs :=
  ((h.off8 hl ht).off8 (box_modify hl u0) ht).off8 (box_modify (box_modify hl u0) u1) ht

theorem below_tri8 {B : Nat} {w0 w : World} {g : Nat} (h : Below B w0 w) (hg : B ≤ g) (u0 u1 u2 : Value) : Below B w0 (((w.setCell ⟨g, 0, none⟩ u0).setCell ⟨g, 1, none⟩ u1).setCell ⟨g, 2, none⟩ u2) :=
  ((h.setCell (p := ⟨g, 0, none⟩) hg u0).setCell (p := ⟨g, 1, none⟩) hg u1).setCell (p := ⟨g, 2, none⟩) hg u2

theorem cell_other8 {w : World} {g k g' k' : Nat} {u : Value} (h : g ≠ g') : (w.setCell ⟨g, k, none⟩ u).cell? ⟨g', k', none⟩ = w.cell? ⟨g', k', none⟩ := by
  simp only [World.cell?]; rw [Below.heap_setCell _ _ _ _ (Ne.symm h)]

theorem bl_trans8 {W0 W t : World} (h : Below W0.heap.size W0 W) (h2 : Below W.heap.size W t) : Below W0.heap.size W0 t := h.trans (h2.mono h.size)

def fitE (n : Int) : Bool := decide (-1099511627776 ≤ n) && decide (n ≤ 1099511627776)

theorem fitE_iff (n : Int) : fitE n = true ↔ -1099511627776 ≤ n ∧ n ≤ 1099511627776 := by simp [fitE]

theorem npos_any (n : Int) (w : World) : Calls Tryz.prog 18 #[.int .i64 n] w fun e w' => e = .returned (.bool (fitE n)) ∧ w' = w := by
  by_cases h1 : -1099511627776 ≤ n
  · have h1' : decide (-1099511627776 ≤ n) = true := decide_eq_true h1
    by_cases h2 : n ≤ 1099511627776
    · have h2' : decide (n ≤ 1099511627776) = true := decide_eq_true h2
      rw [(fitE_iff n).2 ⟨h1, h2⟩]
      go_enter Tryz.func18, Tryz.ntmps18
      go_wp2
      go_ret
      exact ⟨rfl, rfl⟩
    · have h2' : decide (n ≤ 1099511627776) = false := decide_eq_false h2
      have e : fitE n = false := by rw [← Bool.not_eq_true, fitE_iff]; omega
      rw [e]
      go_enter Tryz.func18, Tryz.ntmps18
      go_wp2
      go_ret
      exact ⟨rfl, rfl⟩
  · have h1' : decide (-1099511627776 ≤ n) = false := decide_eq_false h1
    have e : fitE n = false := by rw [← Bool.not_eq_true, fitE_iff]; omega
    rw [e]
    go_enter Tryz.func18, Tryz.ntmps18
    go_wp2
    go_ret
    exact ⟨rfl, rfl⟩


theorem nfault_ok (p m : Int) (w : World) (hp : fitE p = true) (h0 : 0 ≤ m) (h2 : m ≤ 2) : Calls Tryz.prog 9 #[.int .i64 p, .int .i64 m] w fun e w' => e = .returned (.int .i64 0) ∧ w' = w := by
  have HP := npos_any p w
  rw [hp] at HP
  have h3 : decide (m < 0) = false := decide_eq_false (by omega)
  have h4 : decide (2 < m) = false := decide_eq_false (by omega)
  have h5 : ¬ m < 0 := by omega
  have h6 : ¬ 2 < m := by omega
  go_enter Tryz.func9, Tryz.ntmps9
  go_wp2_with fail
  refine HP.mono ?_
  rintro e wn ⟨rfl, hw⟩; rw [hw]; clear hw wn HP
  go_wp2
  go_ret
  exact ⟨rfl, rfl⟩

theorem nisZero_any (v : Value) (X : List Nat) (w : World) (hA : Arg w v X) :
    Calls Tryz.prog 11 #[v] w fun e w' => e = .returned (.bool (decide (val X = 0))) ∧ w' = w := by
  have L := length_val v X w hA
  obtain ⟨a, c, rfl, _, _, _⟩ := hA.form
  have hz := blen_zeroW (val X)
  clear hA
  generalize blen (val X) = l at *
  by_cases h0 : l = 0
  · have h2 : ((l : Int) == 0) = true := by rw [beq_iff_eq]; omega
    rw [decide_eq_true (hz.1 h0)]
    go_enter Tryz.func11, Tryz.ntmps11
    go_wp2_with fail
    refine L.mono ?_
    rintro e wn ⟨rfl, hw⟩; rw [hw]; clear hw wn L
    go_wp2
    go_ret
    exact ⟨rfl, rfl⟩
  · have h2 : ((l : Int) == 0) = false := by rw [beq_eq_false_iff_ne]; omega
    rw [decide_eq_false (fun h => h0 (hz.2 h))]
    go_enter Tryz.func11, Tryz.ntmps11
    go_wp2_with fail
    refine L.mono ?_
    rintro e wn ⟨rfl, hw⟩; rw [hw]; clear hw wn L
    go_wp2
    go_ret
    exact ⟨rfl, rfl⟩

theorem nbeside_any (k : Int) (w : World) (h1 : -1 ≤ k) (h2 : k ≤ 1) : Calls Tryz.prog 33 #[.int .i64 k] w fun e w' => e = .returned (.int .i64 (2 + k)) ∧ w' = w := by
  have hw : IntKind.i64.wrap (2 + k) = 2 + k := by rw [IntKind.wrap_i64]; omega
  obtain ⟨s, hs⟩ : ∃ s, 2 + k = s := ⟨_, rfl⟩
  rw [hs] at hw ⊢
  have hs2 : 2 + k = s := hs
  clear hs h1 h2
  go_enter Tryz.func33, Tryz.ntmps33
  go_wp2
  go_ret
  exact ⟨rfl, rfl⟩

end Go.Proofs.YtppblbhkghjphaaGreatDoor

/- Package rounded: limb, shifted. -/
namespace Go.Proofs.YtppblbhkghjphaaGreatDoor
open Go.RowKit
open Lm
attribute [local go_sem ↓] Go.wp_at_zero Go.wp_at_succ

/-- A number is answered: normal limbs in new memory. -/
def YDone (w : World) (x : Nat) (e : Ending) (w' : World) : Prop :=
  (∃ a n k rs, e = .returned (.slice a n k) ∧ Ans w' w.heap.size (.slice a n k) rs ∧ n = rs.length ∧ val rs = x ∧ tr rs = rs) ∧ Below w.heap.size w w'

theorem tr_exact {rs : List Nat} (n : Nat) (hl : Limbs rs) (hv : n = blen (val rs)) (hr : rs.length = (n + 63) / 64) : tr rs = rs := by
  have h0 := tr_length_le rs
  have h1 : rs.length ≤ (tr rs).length := by
    have h2 := val_lt (limbs_tr hl)
    rw [val_tr, W_pow] at h2
    have h3 := (blen_le_iff _ _).2 h2
    omega
  have h2 := tr_take rs
  rw [List.take_of_length_le h1] at h2
  exact h2

theorem lm_lt {zs : List Nat} (h : Limbs zs) (i : Int) : lm zs i < 18446744073709551616 := by
  unfold lm
  split
  · omega
  · exact limb_lt h _

theorem nlimb_any (ao : Option Addr) (cap : Nat) (zs : List Nat) (i : Int) (w : World) (hcap : zs.length ≤ cap) (_hmax : cap ≤ 9223372036854775807) (hl : Lies w ao zs) :
    Calls Tryz.prog 45 #[.slice ao zs.length cap, .int .i64 i] w fun e w' => e = .returned (.int .u64 ((lm zs i : Nat) : Int)) ∧ w' = w := by
  by_cases h0 : i < 0
  · have e : lm zs i = 0 := by unfold lm; rw [if_pos h0]
    have h1 : ¬ (0 : Int) ≤ i := by omega
    have h2 : decide ((0 : Int) ≤ i) = false := decide_eq_false h1
    rw [e]
    clear hl e
    go_enter Tryz.func45, Tryz.ntmps45
    go_wp2
    go_ret
    exact ⟨rfl, rfl⟩
  · obtain ⟨k, rfl⟩ : ∃ k : Nat, i = (k : Int) := ⟨i.toNat, by omega⟩
    have e : lm zs (k : Int) = zs.getD k 0 := by unfold lm; rw [if_neg h0]; rfl
    rw [e]
    clear e h0
    have h1 : (0 : Int) ≤ (k : Int) := by omega
    by_cases hi : k < zs.length
    · rcases hl with rfl | ⟨b, off, rfl, hc⟩
      · simp at hi
      · have hci := hc k hi
        have h2 : (k : Int) < (zs.length : Int) := by omega
        clear hc
        generalize zs.getD k 0 = z at hci ⊢
        go_enter Tryz.func45, Tryz.ntmps45
        go_wp2
        go_ret
        exact ⟨rfl, rfl⟩
    · have e : zs.getD k 0 = 0 := by simp [List.getD, Nat.le_of_not_lt hi]
      have h2 : ¬ (k : Int) < (zs.length : Int) := by omega
      rw [e]
      clear hl e
      go_enter Tryz.func45, Tryz.ntmps45
      go_wp2
      go_ret
      exact ⟨rfl, rfl⟩

set_option maxRecDepth 20000 in
set_option maxHeartbeats 2000000 in
theorem nshifted_some (v : Value) (X : List Nat) (n : Int) (w : World) (hA : Arg w v X) (h1 : -2305843009213693952 ≤ n) (h2 : n ≤ 2305843009213693952) (h3 : ((blen (val X) : Nat) : Int) + n ≤ 2251799813685000) (hx0 : val X ≠ 0) (hpos : 0 < ((blen (val X) : Nat) : Int) + n) :
    Calls Tryz.prog 26 #[v, .int .i64 n] w (YDone w (fl (val X) n)) := by
  have HL := length_val v X w hA
  have hbl := fl_blen (val X) n hx0
  have hbx : blen (val X) ≠ 0 := fun h => hx0 ((blen_zeroW _).1 h)
  have hfew := hA.few
  have h64 : blen (val X) ≤ 64 * X.length := by
    rw [blen_le_iff, Nat.mul_comm, ← W_pow]; exact val_lt hA.limbs
  obtain ⟨l, hl⟩ : ∃ l : Nat, (l : Int) = (blen (val X) : Int) + n := ⟨((blen (val X) : Int) + n).toNat, by omega⟩
  have hlb : blen (fl (val X) n) = l := by omega
  obtain ⟨m, hm⟩ : ∃ m, m = (l + 63) / 64 := ⟨_, rfl⟩
  have hml : l ≤ 64 * m := by omega
  have hm3 : m ≤ 35184372088831 := by omega
  have w1 : IntKind.i64.wrap ((blen (val X) : Int) + n) = (l : Int) := by rw [IntKind.wrap_i64]; omega
  have w1b : (blen (val X) : Int) + n = (l : Int) := by omega
  have hle : ¬ (l : Int) ≤ 0 := by omega
  have hle2 : decide ((l : Int) ≤ 0) = false := decide_eq_false hle
  have hbz : (((blen (val X) : Nat) : Int) == 0) = false := by rw [beq_eq_false_iff_ne]; omega
  have w2 : IntKind.i64.wrap ((l : Int) + 64) = (l : Int) + 64 := by rw [IntKind.wrap_i64]; omega
  obtain ⟨l6, hl6⟩ : ∃ l6 : Nat, l6 = l + 63 := ⟨_, rfl⟩
  have e63 : (l : Int) + 64 - 1 = (l6 : Int) := by omega
  have eq2 : (l6 : Int) / 64 = (m : Int) := by omega
  obtain ⟨q, hq⟩ : ∃ q : Int, q = (-n) / 64 := ⟨_, rfl⟩
  obtain ⟨r, hr⟩ : ∃ r : Nat, (r : Int) = (-n) % 64 := ⟨((-n) % 64).toNat, by omega⟩
  have hr64 : r < 64 := by omega
  have hnq : -n = 64 * q + r := by omega
  have wn : IntKind.i64.wrap (-n) = -n := by rw [IntKind.wrap_i64]; omega
  obtain ⟨nn, hnn⟩ : ∃ nn, -n = nn := ⟨_, rfl⟩
  rw [hnn] at wn hnq hq hr
  have hnn2 : -n = nn := hnn
  have e1 : nn / 64 = q := hq.symm
  have e1' : nn / 2 ^ 6 = q := hq.symm
  have e2 : bits BinOp.and IntKind.i64 nn 63 = (r : Int) := by rw [i64_and63, hr]
  have ec : (64 : Int) - (r : Int) = ((64 - r : Nat) : Int) := by omega
  have HM := hide (And.intro hm (And.intro hlb hml))
  have hAA := hide hA
  obtain ⟨i0, hi, hz0, hz1, hz2⟩ := info_parts Tryz.infoU
  obtain ⟨a, c, rfl, hc, hcm, hlies⟩ := hA.form
  have HLS := hide hlies
  have HBF := hide (fun (k : Nat) => show shr (lm X ((k : Int) + q)) (lm X ((k : Int) + q + 1)) r = fl (val X) n / 2 ^ (64 * k) % 18446744073709551616 by
    have h := bits_from hAA.out.limbs (64 * (k : Int) - n) ((k : Int) + q) r hr64 (by omega)
    rw [h, ← fl_limb])
  have HLM := hide hAA.out.limbs
  have HQB : Hid (-36028797018963969 ≤ q ∧ q ≤ 36028797018963969) := hide (by omega)
  generalize hY : fl (val X) n = Y at *
  generalize blen (val X) = bl at *
  have hr0 : (0 : Int) ≤ (r : Int) := by omega
  have ht : 64 - r ≤ 64 := by omega
  generalize htt : 64 - r = t at *
  have wt : IntKind.i64.wrap (t : Int) = (t : Int) := by rw [IntKind.wrap_i64]; omega
  have HTT := hide htt
  clear hm hlb hml hl hl6 hbl hlies hA hY h64 hq hr hnq hnn hbx hx0 htt
  go_enter Tryz.func26, Tryz.ntmps26
  go_wp2_with fail
  refine HL.mono ?_
  rintro e wn9 ⟨rfl, hw⟩; rw [hw]; clear hw wn9 HL
  go_wp2_with (at_make; refine wpList_make_full _ rfl _ _ 24 rfl w.heap.size 32 i0 (.int .u64 0) 1 Tryz.underlying24 hi hz0 hz1 .i64 .i64 _ _ m rfl rfl (by omega) (by omega) (by rw [hz2]; omega) (by unfold maxLen; omega) (Nat.le_refl _) ?_; intro wm hown hgrow)
  have hb1 := Blk.made hown
  have hbel : Below w.heap.size w wm := (Below.refl _ _).grown hgrow (Nat.le_refl _) (fun k hk => by cases hk)
  clear hown hgrow hi hz0 hz1 hz2
  go_wp2_with fail
  go_loopw [35] (fun i wr => ∃ (k : Nat) (out : List Nat), k ≤ m ∧ i = .int .i64 k ∧ out.length = m ∧ Limbs out ∧ Blk wr w.heap.size out ∧ Below w.heap.size w wr ∧ val (out.take k) = Y % 18446744073709551616 ^ k) (fun i _ => m - (intOf i).toNat)
  case atStart => exact ⟨0, _, Nat.zero_le _, rfl, by simp, limbs_replicate _, hb1, hbel, by simp [val, Nat.mod_one]⟩
  case round =>
    obtain ⟨k, out, hk, rfl, hlen, hlo, hblk, hbl, hval⟩ := hrel
    clear hb1 hbel
    by_cases hkl : k < m
    · have hst := shifted_step Y out k (Y / 2 ^ (64 * k) % 18446744073709551616) (by omega) hval rfl
      have hz : Y / 2 ^ (64 * k) % 18446744073709551616 < 18446744073709551616 := Nat.mod_lt _ (by omega)
      rw [← HBF.out k] at hst hz
      have wq : IntKind.i64.wrap ((k : Int) + q) = (k : Int) + q := by have := HQB.out; rw [IntKind.wrap_i64]; omega
      have wq1 : IntKind.i64.wrap ((k : Int) + q + 1) = (k : Int) + q + 1 := by have := HQB.out; rw [IntKind.wrap_i64]; omega
      have z1 := lm_lt HLM.out ((k : Int) + q)
      have e3 := walk_shr2 (lm X ((k : Int) + q)) (lm X ((k : Int) + q + 1)) r hr64 z1
      have e4 := walk_shr (lm X ((k : Int) + q)) r
      have D1 := fun nq => nlimb_any a c X ((k : Int) + q) (wr.drewN nq) hc hcm (HLS.out.below (hbl.trans ((((Same.refl wr).drewN nq).below wr.heap.size).mono hbl.size)))
      have D2 := fun nq => nlimb_any a c X ((k : Int) + q + 1) (wr.drewN nq) hc hcm (HLS.out.below (hbl.trans ((((Same.refl wr).drewN nq).below wr.heap.size).mono hbl.size)))
      rw [HTT.out] at e3
      rw [e4] at e3
      generalize shr (lm X ((k : Int) + q)) (lm X ((k : Int) + q + 1)) r = z at *
      generalize lm X ((k : Int) + q) = x at *
      generalize lm X ((k : Int) + q + 1) = y at *
      generalize x / 2 ^ r = x1 at *
      generalize hk1 : (k : Int) + q = kq at *
      have hk12 : (k : Int) + q = kq := hk1
      generalize hk2 : kq + 1 = kq1 at *
      have hk22 : kq + 1 = kq1 := hk2
      have HV := hide hst
      have HLO := hide (And.intro hlo hlen)
      have hi1 : (0 : Int) ≤ (k : Int) := by omega
      have hi2 : (k : Int) < (m : Int) := by omega
      have hfr := hblk.free k
      have hco := hblk.cell k (by omega)
      have HBD : Hid (Blk wr.drew w.heap.size out) := hide hblk
      have HSD := hide hbl.drew
      generalize out.getD k 0 = o at *
      clear hst hblk hval hlo hbl hk1 hk2
      go_wp2_with fail
      go_region_with (first
        | (go_at_call_of 45 kq1; refine (D2 1).mono ?_; rintro e' wn9 ⟨rfl, hw⟩; rw [hw]; clear hw wn9)
        | (go_at_call_of 45 kq; refine (D1 1).mono ?_; rintro e' wn9 ⟨rfl, hw⟩; rw [hw]; clear hw wn9))
      all_goals (go_wp2_with fail; go_roundw)
      all_goals first
        | exact ⟨k + 1, out.set k z, by omega, by go_num, by simp; exact HLO.out.2, limbs_set HLO.out.1 _ _ hz, HBD.out.set k z, HSD.out.setCell (Nat.le_refl _) _, HV.out⟩
        | (simp [intOf]; omega)
    · have ek : k = m := by omega
      subst ek
      obtain ⟨hm1, hlb, hml⟩ := HM.out
      have hY2 : val out = Y := by
        rw [List.take_of_length_le (by omega)] at hval
        rw [hval, Nat.mod_eq_of_lt]
        have := (blen_le_iff Y l).1 (by omega)
        rw [W_pow]
        exact Nat.lt_of_lt_of_le this (Nat.pow_le_pow_right (by omega) (by omega))
      have ht9 : tr out = out := tr_exact l hlo (by rw [hY2]; exact hlb.symm) (by rw [hlen]; omega)
      have HA := Ans.of_blk (base := w.heap.size) (zs := out) (Nat.le_refl _) hblk (by simp) (Nat.le_refl _) (by omega) hlo
      rw [hlen] at HA
      have HR := hide (And.intro HA (And.intro hY2 (And.intro ht9 (And.intro hbl hlen))))
      clear HA hY2 ht9 hbl hlen hval hblk hlo hm1 hlb hml
      go_wp2
      go_returns
      exact ⟨⟨_, _, _, out, rfl, HR.out.1, HR.out.2.2.2.2.symm, HR.out.2.1, HR.out.2.2.1⟩, HR.out.2.2.2.1⟩

end Go.Proofs.YtppblbhkghjphaaGreatDoor

/- Package rounded: normal; awayBy and its closure; beside. -/
namespace Go.Proofs.YtppblbhkghjphaaGreatDoor
open Go.RowKit
open Lm
attribute [local go_sem ↓] Go.wp_at_zero Go.wp_at_succ

set_option maxRecDepth 20000 in
set_option maxHeartbeats 2000000 in
theorem nnormal_any (b : Bool) (a : Option Addr) (c : Nat) (X : List Nat) (ex : Int) (t : Nat) (w : World) (hA : Arg w (.slice a X.length c) X) (hT : Tab w) (hf : X.length ≤ 17592186044416) (h0 : val X ≠ 0) (ht : IsTail (val X) t) (hb : blen (val X) ≤ 67108864) (hE : fitE (ex + t) = true) :
    Calls Tryz.prog 22 #[.bool b, .slice a X.length c, .int .i64 ex] w fun e w' => (∃ a n k rs, e = .returned (.tuple #[.agg #[.bool b, .slice a n k, .int .i64 (ex + t)], .int .i64 0]) ∧ Ans w' w.heap.size (.slice a n k) rs ∧ val rs = val X / 2 ^ t ∧ tr rs = rs) ∧ Below w.heap.size w w' := by
  obtain ⟨w0, hw0, hb0, k0⟩ := enter1 w (.cells #[.bool false, .slice none 0 0, .int .i64 0] 28)
  have hA0 := hA.below hb0
  have HZ := nisZero_any _ X w0 hA0
  rw [decide_eq_false h0] at HZ
  have HTL := tail_any _ X w0 hA0 (hT.below hb0)
  have hEr := (fitE_iff _).1 hE
  have htl := tl_le (val X)
  rw [tl_of ht] at htl
  have wr9 : IntKind.i64.wrap (ex + t) = ex + t := by rw [IntKind.wrap_i64]; omega
  have HPO := npos_any (ex + t) w0
  rw [hE] at HPO
  have HRT := right_any (.slice a X.length c) X t w0 hA0 (by omega) (by omega)
  have hbq : blen (val X / 2 ^ t) ≤ 67108864 := Nat.le_trans (blen_mono (Nat.div_le_self _ _)) hb
  have HBQ := hide hbq
  have HK0 := hide k0
  have HB := hide hb0
  have HIT := hide (And.intro h0 ht)
  obtain ⟨es, hes⟩ : ∃ es, ex + (t : Int) = es := ⟨_, rfl⟩
  rw [hes] at wr9 HPO ⊢
  have hes2 : ex + (t : Int) = es := hes
  generalize hQ : val X / 2 ^ t = Q at *
  clear hA hA0 hT k0 hb0 h0 ht hE hEr hes hbq htl hb hQ
  go_enter Tryz.func22, Tryz.ntmps22
  go_wp2_with fail
  refine HZ.mono ?_
  rintro e wn9 ⟨rfl, hw⟩; rw [hw]; clear hw wn9 HZ
  go_wp2_with fail
  refine HTL.mono ?_
  rintro e wn9 ⟨⟨t', _, rfl, _, ht2⟩, hw⟩; rw [hw]; clear hw wn9 HTL
  obtain rfl : t' = t := isTail_one (ht2 HIT.out.1) HIT.out.2
  clear ht2
  go_wp2_with fail
  refine HPO.mono ?_
  rintro e wn9 ⟨rfl, hw⟩; rw [hw]; clear hw wn9 HPO
  go_wp2_with fail
  refine HRT.mono ?_
  rintro e t1 ⟨g1, v1, c1, rs, rfl, hans, hcase⟩
  obtain ⟨a1, k1, rfl⟩ := hans.shape
  rcases hcase with ⟨rfl, hv, htr, _⟩ | ⟨_, _, hbig⟩
  · have HC1 := hide (block_upW g1 HK0.out)
    have HG := hide (bl_trans8 HB.out g1)
    have HAN := hide (hans.base HB.out.size)
    have HVT := hide (And.intro hv htr)
    have hf1 := tri8f HC1.out
    obtain ⟨m0, m1, m2⟩ := tri8 HC1.out
    clear g1 hans hv htr HRT
    generalize rs.length = ln at *
    go_wp2
    have T3 := tri8_all HC1.out (.bool b) (.slice a1 ln k1) (.int .i64 es)
    have T4 := below_tri8 HG.out (Nat.le_refl _) (.bool b) (.slice a1 ln k1) (.int .i64 es)
    have T5 := HAN.out.tri8 HC1.out (by decide) (.bool b) (.slice a1 ln k1) (.int .i64 es)
    obtain ⟨p0, p1, p2⟩ := tri8 T3
    have HE := hide (And.intro T5 T4)
    clear T3 T4 T5
    generalize ((t1.setCell ⟨w.heap.size, 0, none⟩ (.bool b)).setCell ⟨w.heap.size, 1, none⟩ (.slice a1 ln k1)).setCell ⟨w.heap.size, 2, none⟩ (.int .i64 es) = w5 at *
    refine bodyPost_ret (v := .tuple #[.agg #[.bool b, .slice a1 ln k1, .int .i64 es], .int .i64 0]) (by simp [results, Tryz.results22, go_sem, p0, p1, p2]) rfl ?_
    exact ⟨⟨_, _, _, rs, rfl, HE.out.1, HVT.out.1, HVT.out.2⟩, HE.out.2⟩
  · exact absurd HBQ.out (by omega)

end Go.Proofs.YtppblbhkghjphaaGreatDoor

/- Package rounded: divided, where div answers both. -/
namespace Go.Proofs.YtppblbhkghjphaaGreatDoor
open Go.RowKit
open Lm
attribute [local go_sem ↓] Go.wp_at_zero Go.wp_at_succ

/-- What is left of a step, held against half of it: 0 nothing, 1 less, 2 half, 3 more. -/
def leftN (r y : Nat) : Int := if r = 0 then 0 else 2 + cmpN (2 * r) y

/-- A size in steps. -/
def Cnt (w : World) (base x : Nat) (l : Int) (e : Ending) (w' : World) : Prop :=
  (∃ a n k rs, e = .returned (.tuple #[.agg #[.slice a n k, .int .i64 l], .int .i64 0]) ∧ Ans w' base (.slice a n k) rs ∧ n = rs.length ∧ val rs = x ∧ tr rs = rs) ∧ Below w.heap.size w w'

set_option maxRecDepth 20000 in
set_option maxHeartbeats 2000000 in
theorem ndivided_ok (va vb : Value) (X Y : List Nat) (w : World) (hA : Arg w va X) (hA2 : Arg w vb Y) (hT : Tab w) (hf1 : X.length ≤ 17592186044416) (hf2 : Y.length ≤ 17592186044416) (hY : val Y ≠ 0) (hq : blen (val X / val Y) ≤ 67108864) (hr : blen (val X % val Y) ≤ 67108864) :
    Calls Tryz.prog 25 #[va, vb] w (Cnt w w.heap.size (val X / val Y) (leftN (val X % val Y) (val Y))) := by
  obtain ⟨w0, hw0, hb0, k0⟩ := enter1 w (.cells #[.slice none 0 0, .int .i64 0] 60)
  have HB2 := dBoth_any va vb X Y w0 (hA.below hb0) (hA2.below hb0) (hT.below hb0) hf1 hf2 hY
  have HK0 := hide k0
  have HB := hide hb0
  have HA2 := hide (hA2.below hb0)
  have HQR := hide (And.intro hq hr)
  obtain ⟨a1, c1, rfl, _, _, _⟩ := hA.form
  obtain ⟨a2, c2, rfl, _, _, _⟩ := hA2.form
  generalize hQ : val X / val Y = Q at *
  generalize hR : val X % val Y = R at *
  generalize hYv : val Y = y at *
  have HYV := hide hYv
  clear hA hA2 hT k0 hb0 hq hr hQ hR hYv
  by_cases h0 : R = 0
  · have hl : leftN R y = 0 := by unfold leftN; rw [if_pos h0]
    rw [hl]
    clear hl
    go_enter Tryz.func25, Tryz.ntmps25
    go_wp2_with fail
    refine HB2.mono ?_
    rintro e t1 ⟨⟨v1, v2, cc, r1, r2, mid, rfl, hans1, hmid, _, hans2, hcase⟩, g1⟩
    obtain ⟨b1, k1, rfl⟩ := hans1.shape
    obtain ⟨b2, k2, rfl⟩ := hans2.shape
    rcases hcase with ⟨rfl, hv1, ht1, hv2, ht2, _, _⟩ | ⟨_, _, _, hbig⟩
    · have hl2 : r2.length ≤ 1048576 := few_ofW ht2 rfl (by rw [hv2]; exact HQR.out.2)
      have HZ := nisZero_any _ r2 t1 (hans2.arg (by omega))
      rw [hv2, decide_eq_true h0] at HZ
      have HC1 := hide (block_upW g1 HK0.out)
      have HG := hide (bl_trans8 HB.out g1)
      have HAN := hide (hans1.base HB.out.size)
      have HVT := hide (And.intro hv1 ht1)
      have hf9 := duof HC1.out
      obtain ⟨m0, m1⟩ := duo HC1.out
      clear g1 hans1 hans2 hv1 ht1 hv2 ht2 HB2 hmid
      have hnn : r1.length = r1.length := rfl
      obtain ⟨ln, hln⟩ : ∃ ln, r1.length = ln := ⟨_, rfl⟩
      have HLN := hide hln
      rw [hln] at HAN ⊢
      clear hln hnn
      go_wp2_with fail
      refine HZ.mono ?_
      rintro e wn9 ⟨rfl, hw⟩; rw [hw]; clear hw wn9 HZ
      go_wp2
      have T3 := duo_all (a' := .slice b1 ln k1) (b' := .int .i64 0) HC1.out
      have T4 := below_duo (u0 := .slice b1 ln k1) (u1 := .int .i64 0) HG.out (Nat.le_refl _)
      have T5 := (HAN.out.off8 (o := 0) (u := .slice b1 ln k1) HC1.out (by decide)).off8 (o := 1) (u := .int .i64 0) (box_modify HC1.out _) (by decide)
      obtain ⟨p0, p1⟩ := duo T3
      have HE := hide (And.intro T5 T4)
      clear T3 T4 T5
      generalize (t1.setCell ⟨w.heap.size, 0, none⟩ (.slice b1 ln k1)).setCell ⟨w.heap.size, 1, none⟩ (.int .i64 0) = w5 at *
      refine bodyPost_ret (v := .tuple #[.agg #[.slice b1 ln k1, .int .i64 0], .int .i64 0]) (by simp [results, Tryz.results25, go_sem, p0, p1]) rfl ?_
      exact ⟨⟨_, _, _, r1, rfl, HE.out.1, HLN.out.symm, HVT.out.1, HVT.out.2⟩, HE.out.2⟩
    · have := HQR.out; omega
  · have hl : leftN R y = 2 + cmpN (2 * R) y := by unfold leftN; rw [if_neg h0]
    rw [hl]
    clear hl
    have hb5 : blen (2 * R) ≤ blen R + 1 := by
      have h := (blen_le_iff R (blen R)).1 (Nat.le_refl _)
      refine (blen_le_iff _ _).2 ?_
      rw [Nat.pow_succ]; omega
    have hcr := cmpN_range (2 * R) y
    generalize hkc : cmpN (2 * R) y = kc at *
    have HKC := hide hkc
    have HB5 := hide hb5
    have hk1 : -1 ≤ kc ∧ kc ≤ 1 := by omega
    obtain ⟨s, hs⟩ : ∃ s, 2 + kc = s := ⟨_, rfl⟩
    rw [hs]
    have HS := hide hs
    clear hkc hcr hb5 hs
    go_enter Tryz.func25, Tryz.ntmps25
    go_wp2_with fail
    refine HB2.mono ?_
    rintro e t1 ⟨⟨v1, v2, cc, r1, r2, mid, rfl, hans1, hmid, _, hans2, hcase⟩, g1⟩
    obtain ⟨b1, k1, rfl⟩ := hans1.shape
    obtain ⟨b2, k2, rfl⟩ := hans2.shape
    rcases hcase with ⟨rfl, hv1, ht1, hv2, ht2, _, _⟩ | ⟨_, _, _, hbig⟩
    · have hl2 : r2.length ≤ 1048576 := few_ofW ht2 rfl (by rw [hv2]; exact HQR.out.2)
      have HZ := nisZero_any _ r2 t1 (hans2.arg (by omega))
      rw [hv2, decide_eq_false h0] at HZ
      have hr0 : val r2 ≠ 0 := by rw [hv2]; exact h0
      have hb2 : blen (val r2) ≤ 67108864 := by rw [hv2]; exact HQR.out.2
      have HSH := nshifted_some _ r2 1 t1 (hans2.arg (by omega)) (by omega) (by omega) (by omega) hr0 (by omega)
      have hfl : fl (val r2) 1 = 2 * R := by rw [hv2]; unfold fl; simp; omega
      rw [hfl] at HSH
      have HC1 := hide (block_upW g1 HK0.out)
      have HG1 := hide g1
      have HAN := hide hans1
      have HVT := hide (And.intro hv1 ht1)
      clear g1 hans1 hans2 hv1 ht1 hv2 ht2 HB2 hmid hr0 hb2 hfl
      obtain ⟨ln, hln⟩ : ∃ ln, r1.length = ln := ⟨_, rfl⟩
      have HLN := hide hln
      rw [hln] at HAN ⊢
      clear hln
      generalize r2.length = l2 at *
      go_wp2_with fail
      refine HZ.mono ?_
      rintro e wn9 ⟨rfl, hw⟩; rw [hw]; clear hw wn9 HZ
      go_wp2_with fail
      refine HSH.mono ?_
      rintro e t2 ⟨⟨a5, n5, k5, r5, rfl, hans5, hn5, hv5, ht5⟩, g2⟩
      subst hn5
      have hl5 : r5.length ≤ 1048577 := few_ofW ht5 hv5 (by have h1 := HB5.out; have h2 := HQR.out.2; omega)
      have HCM := compare_any (.slice a5 r5.length k5) (.slice a2 Y.length c2) r5 Y t2 (hans5.arg (by omega)) ((HA2.out.below HG1.out).below g2)
      rw [hv5, HYV.out, HKC.out] at HCM
      have HG2 := hide (bl_trans8 HG1.out g2)
      replace HC1 := hide (block_upW g2 HC1.out)
      replace HAN := hide (HAN.out.below g2)
      clear HSH hans5 hv5 ht5 hl5 g2
      generalize r5.length = l5 at *
      go_wp2_with fail
      refine HCM.mono ?_
      rintro e t3 ⟨rfl, hs3⟩
      have g3 := hs3.below t2.heap.size
      have HBS := nbeside_any kc t3 hk1.1 hk1.2
      rw [HS.out] at HBS
      have HG := hide (bl_trans8 HB.out (bl_trans8 HG2.out g3))
      replace HC1 := hide (block_upW g3 HC1.out)
      replace HAN := hide ((HAN.out.below g3).base HB.out.size)
      have hf9 := duof HC1.out
      obtain ⟨m0, m1⟩ := duo HC1.out
      clear HCM hs3 g3
      go_wp2_with fail
      refine HBS.mono ?_
      rintro e wn9 ⟨rfl, hw⟩; rw [hw]; clear hw wn9 HBS
      go_wp2
      have T3 := duo_all (a' := .slice b1 ln k1) (b' := .int .i64 s) HC1.out
      have T4 := below_duo (u0 := .slice b1 ln k1) (u1 := .int .i64 s) HG.out (Nat.le_refl _)
      have T5 := (HAN.out.off8 (o := 0) (u := .slice b1 ln k1) HC1.out (by decide)).off8 (o := 1) (u := .int .i64 s) (box_modify HC1.out _) (by decide)
      obtain ⟨p0, p1⟩ := duo T3
      have HE := hide (And.intro T5 T4)
      clear T3 T4 T5
      generalize (t3.setCell ⟨w.heap.size, 0, none⟩ (.slice b1 ln k1)).setCell ⟨w.heap.size, 1, none⟩ (.int .i64 s) = w5 at *
      refine bodyPost_ret (v := .tuple #[.agg #[.slice b1 ln k1, .int .i64 s], .int .i64 0]) (by simp [results, Tryz.results25, go_sem, p0, p1]) rfl ?_
      exact ⟨⟨_, _, _, r1, rfl, HE.out.1, HLN.out.symm, HVT.out.1, HVT.out.2⟩, HE.out.2⟩
    · have := HQR.out; omega

end Go.Proofs.YtppblbhkghjphaaGreatDoor

/- Package rounded: the work of a fraction's steps, where its numerator is shifted up. -/
namespace Go.Proofs.YtppblbhkghjphaaGreatDoor
open Go.RowKit
open Lm
attribute [local go_sem ↓] Go.wp_at_zero Go.wp_at_succ

theorem one9 {w : World} {h : Nat} {a : Value} {t : TypeId} (e : w.heap[h]? = some (.cells #[a] t)) : w.cell? ⟨h, 0, none⟩ = some a := by simp [World.cell?, e]

set_option maxRecDepth 20000 in
set_option maxHeartbeats 4000000 in
theorem nwork_up (gu gf : Nat) (a1 : Option Addr) (c1 : Nat) (X : List Nat) (a2 : Option Addr) (c2 : Nat) (Y : List Nat) (ex : Int) (up : Nat) (w : World) (hu : w.heap[gu]? = some (.cells #[.int .i64 (up : Int)] 3)) (hfb : w.heap[gf]? = some (.cells #[.slice a1 X.length c1, .slice a2 Y.length c2, .int .i64 ex] 44)) (hA : Arg w (.slice a1 X.length c1) X) (hA2 : Arg w (.slice a2 Y.length c2) Y) (hT : Tab w) (hf2 : Y.length ≤ 17592186044416) (h0 : val X ≠ 0) (hY : val Y ≠ 0) (hup : 0 < up) (hsz : blen (val X) + up ≤ 1125899906842624) (hq : blen (val X * 2 ^ up / val Y) ≤ 67108864) (hr : blen (val X * 2 ^ up % val Y) ≤ 67108864) :
    Calls Tryz.prog 24 #[.pointer (some ⟨gu, 0, none⟩), .pointer (some ⟨gf, 0, none⟩)] w (Cnt w w.heap.size (val X * 2 ^ up / val Y) (leftN (val X * 2 ^ up % val Y) (val Y))) := by
  obtain ⟨w0, hw0, hb0, k0⟩ := enter1 w (.cells #[.slice none 0 0, .int .i64 0] 60)
  have hfl : fl (val X) (up : Int) = val X * 2 ^ up := by unfold fl; rw [if_pos (by omega), Int.toNat_natCast]
  have hb1 : 0 < blen (val X) := by
    rcases Nat.eq_zero_or_pos (blen (val X)) with h | h
    · exact absurd ((blen_zeroW _).1 h) h0
    · exact h
  have gd : Below w.heap.size w w0.drew := hb0.drew
  have g0 : Below w0.drew.heap.size w0.drew w0.drew := Below.refl _ _
  have SH := hide (fun (W : World) (hg : Below w0.drew.heap.size w0.drew W) => show Calls Tryz.prog 26 #[.slice a1 X.length c1, .int .i64 (up : Int)] W (YDone W (val X * 2 ^ up)) by
    have h := nshifted_some _ X (up : Int) W ((hA.below gd).below hg) (by omega) (by omega) (by omega) h0 (by omega)
    rw [hfl] at h
    exact h)
  have hbx : blen (val X * 2 ^ up) ≤ 17592186044416 * 64 := by
    have h := fl_blen (val X) (up : Int) h0
    rw [hfl] at h
    omega
  have DV := hide (fun (W : World) (a5 : Option Addr) (k5 : Nat) (r5 : List Nat) (hr5 : Arg W (.slice a5 r5.length k5) r5) (hv5 : val r5 = val X * 2 ^ up) (ht5 : tr r5 = r5) (hg : Below w0.drew.heap.size w0.drew W) => show Calls Tryz.prog 25 #[.slice a5 r5.length k5, .slice a2 Y.length c2] W (Cnt W W.heap.size (val X * 2 ^ up / val Y) (leftN (val X * 2 ^ up % val Y) (val Y))) by
    have h := ndivided_ok (.slice a5 r5.length k5) (.slice a2 Y.length c2) r5 Y W hr5 ((hA2.below gd).below hg) ((hT.below gd).below hg) (few_ofW ht5 hv5 hbx) hf2 hY (by rw [hv5]; exact hq) (by rw [hv5]; exact hr)
    rw [hv5] at h
    exact h)
  have HBX := hide hbx
  have hu1 : decide ((up : Int) < 0) = false := decide_eq_false (by omega)
  have hu2 : decide (0 < (up : Int)) = true := decide_eq_true (by omega)
  have hu3 : ¬ (up : Int) < 0 := by omega
  have hu4 : 0 < (up : Int) := by omega
  have KB := hide (fun (W : World) (hg : Below w0.drew.heap.size w0.drew W) => And.intro (block_upW (bl_trans8 gd hg) hu) (block_upW (bl_trans8 gd hg) hfb))
  have KS := hide (fun (W : World) (hg : Below w0.drew.heap.size w0.drew W) => show W.cell? ⟨gu, 0, none⟩ = some (.int .i64 (up : Int)) ∧ W.cell? ⟨gf, 0, none⟩ = some (.slice a1 X.length c1) ∧ W.cell? ⟨gf, 1, none⟩ = some (.slice a2 Y.length c2) ∧ W.cell? ⟨gf, 2, none⟩ = some (.int .i64 ex) from ⟨one9 (KB.out W hg).1, (tri8 (KB.out W hg).2).1, (tri8 (KB.out W hg).2).2.1, (tri8 (KB.out W hg).2).2.2⟩)
  have hu0 := one9 (block_upW hb0 hu)
  have HK0 := hide k0
  have HGD := hide gd
  have hlu : gu < w.heap.size := lt_of_block hu
  have hlf : gf < w.heap.size := lt_of_block hfb
  generalize hQ : val X * 2 ^ up / val Y = Q at *
  generalize hL : leftN (val X * 2 ^ up % val Y) (val Y) = lf at *
  clear hA hA2 hT hu hfb hb0 gd k0 hq hr hfl hb1 h0 hY hbx hQ hL
  go_enter Tryz.func24, Tryz.ntmps24
  go_wp2_with fail
  go_region_held3 (fun w' => w'.cell? ⟨gu, 0, none⟩ = some (.int .i64 (up : Int)) ∧ w'.cell? ⟨gf, 0, none⟩ = some (.slice a1 X.length c1) ∧ w'.cell? ⟨gf, 1, none⟩ = some (.slice a2 Y.length c2) ∧ w'.cell? ⟨gf, 2, none⟩ = some (.int .i64 ex)) (first | with_reducible exact KS.out _ g2 | with_reducible exact KS.out _ g1 | with_reducible exact KS.out _ g0 | (obtain ⟨q1, q2, q3, q4⟩ := KS.out _ g2; refine ⟨?_, ?_, ?_, ?_⟩ <;> (rw [cell_other8 (by omega), cell_other8 (by omega)]; assumption))) (first
    | (go_at_call 25; refine (DV.out _ a5 k5 r5 (hans5.arg (by have := few_ofW (n := 17592186044416) ht5 hv5 HBX.out; omega)) hv5 ht5 g1).mono ?_; rintro e' t2 ⟨⟨a6, n6, k6, r6, rfl, hans6, rfl, hv6, ht6⟩, hb2⟩; have g2 := bl_trans8 g1 hb2; have HC2 := hide (block_upW g2 (show w0.drew.heap[w.heap.size]? = some (.cells #[.slice none 0 0, .int .i64 0] 60) from HK0.out)); have cf := duof HC2.out; obtain ⟨cc0, cc1⟩ := duo HC2.out; have sx1 := fun (W : World) (k : Nat) (u : Value) (k' : Nat) => cell_other8 (w := W) (g := w.heap.size) (k := k) (g' := gu) (k' := k') (u := u) (by omega); have sx2 := fun (W : World) (k : Nat) (u : Value) (k' : Nat) => cell_other8 (w := W) (g := w.heap.size) (k := k) (g' := gf) (k' := k') (u := u) (by omega))
    | (go_at_call 26; refine (SH.out _ g0).mono ?_; rintro e' t1 ⟨⟨a5, n5, k5, r5, rfl, hans5, rfl, hv5, ht5⟩, hb1⟩; have g1 := bl_trans8 g0 hb1))
  have HVT := hide (And.intro hv6 ht6)
  have HAN := hide (hans6.base (Nat.le_trans HGD.out.size g1.size))
  have HG := hide (bl_trans8 HGD.out g2)
  clear hv6 ht6 hans6 hans5 hv5 ht5 g0 g1 g2 hb1 hb2 KS KB SH DV
  obtain ⟨n6, hn6⟩ : ∃ n6, r6.length = n6 := ⟨_, rfl⟩
  have HL6 := hide hn6.symm
  rw [hn6] at HAN ⊢
  clear hn6
  go_wp2
  have T3 := duo_all (a' := .slice a6 n6 k6) (b' := .int .i64 lf) HC2.out
  have T4 := below_duo (u0 := .slice a6 n6 k6) (u1 := .int .i64 lf) HG.out (Nat.le_refl _)
  have T5 := (HAN.out.off8 (o := 0) (u := .slice a6 n6 k6) HC2.out (by decide)).off8 (o := 1) (u := .int .i64 lf) (box_modify HC2.out _) (by decide)
  obtain ⟨p0, p1⟩ := duo T3
  have HE := hide (And.intro T5 T4)
  clear T3 T4 T5
  generalize (t2.setCell ⟨w.heap.size, 0, none⟩ (.slice a6 n6 k6)).setCell ⟨w.heap.size, 1, none⟩ (.int .i64 lf) = w5 at *
  refine bodyPost_ret (v := .tuple #[.agg #[.slice a6 n6 k6, .int .i64 lf], .int .i64 0]) (by simp [results, Tryz.results24, go_sem, p0, p1]) rfl ?_
  exact ⟨⟨_, _, _, r6, rfl, HE.out.1, HL6.out, HVT.out.1, HVT.out.2⟩, HE.out.2⟩

end Go.Proofs.YtppblbhkghjphaaGreatDoor

/- Package rounded: within, over a fraction's work; steps of a fraction whose numerator is shifted up. -/
namespace Go.Proofs.YtppblbhkghjphaaGreatDoor
open Go.RowKit
open Lm
attribute [local go_sem ↓] Go.wp_at_zero Go.wp_at_succ

set_option maxRecDepth 20000 in
set_option maxHeartbeats 2000000 in
theorem nwithin_fr (lo hi : Int) (pu pf : Value) (Q : Nat) (l : Int) (w : World) (hlo : lo < 67108864) (hhi : -1 ≤ hi) (HC : ∀ W, Below w.heap.size w W → Calls Tryz.prog 24 #[pu, pf] W (Cnt W W.heap.size Q l)) :
    Calls Tryz.prog 23 #[.int .i64 lo, .int .i64 hi, .func (Fn.func 24) #[] #[pu, pf]] w (Cnt w w.heap.size Q l) := by
  obtain ⟨w0, hw0, hb0, k0⟩ := enter1 w (.cells #[.slice none 0 0, .int .i64 0] 60)
  have H1 := HC w0 hb0
  have HK0 := hide k0
  have HB := hide hb0
  have d1 : decide ((67108864 : Int) ≤ lo) = false := decide_eq_false (by omega)
  have d2 : decide (hi < -1) = false := decide_eq_false (by omega)
  have d3 : ¬ (67108864 : Int) ≤ lo := by omega
  have d4 : ¬ hi < -1 := by omega
  clear HC k0 hb0
  go_enter Tryz.func23, Tryz.ntmps23
  go_wp2_with fail
  refine H1.mono ?_
  rintro e t1 ⟨⟨a6, n6, k6, r6, rfl, hans6, hn6, hv6, ht6⟩, g1⟩
  have HL6 := hide hn6
  have HVT := hide (And.intro hv6 ht6)
  have HAN := hide (hans6.base HB.out.size)
  have HG := hide (bl_trans8 HB.out g1)
  have HC2 := hide (block_upW g1 HK0.out)
  have cf := duof HC2.out
  obtain ⟨cc0, cc1⟩ := duo HC2.out
  clear hn6 hv6 ht6 hans6 g1 H1
  go_wp2
  have T3 := duo_all (a' := .slice a6 n6 k6) (b' := .int .i64 l) HC2.out
  have T4 := below_duo (u0 := .slice a6 n6 k6) (u1 := .int .i64 l) HG.out (Nat.le_refl _)
  have T5 := (HAN.out.off8 (o := 0) (u := .slice a6 n6 k6) HC2.out (by decide)).off8 (o := 1) (u := .int .i64 l) (box_modify HC2.out _) (by decide)
  obtain ⟨p0, p1⟩ := duo T3
  have HE := hide (And.intro T5 T4)
  clear T3 T4 T5
  generalize (t1.setCell ⟨w.heap.size, 0, none⟩ (.slice a6 n6 k6)).setCell ⟨w.heap.size, 1, none⟩ (.int .i64 l) = w5 at *
  refine bodyPost_ret (v := .tuple #[.agg #[.slice a6 n6 k6, .int .i64 l], .int .i64 0]) (by simp [results, Tryz.results23, go_sem, p0, p1]) rfl ?_
  exact ⟨⟨_, _, _, r6, rfl, HE.out.1, HL6.out, HVT.out.1, HVT.out.2⟩, HE.out.2⟩

end Go.Proofs.YtppblbhkghjphaaGreatDoor

/- Package rounded: steps of a fraction whose numerator is shifted up. -/
namespace Go.Proofs.YtppblbhkghjphaaGreatDoor
open Go.RowKit
open Lm
attribute [local go_sem ↓] Go.wp_at_zero Go.wp_at_succ

set_option maxRecDepth 20000 in
set_option maxHeartbeats 4000000 in
theorem nsteps_up (a1 : Option Addr) (c1 : Nat) (X : List Nat) (a2 : Option Addr) (c2 : Nat) (Y : List Nat) (ex pos : Int) (up : Nat) (w : World) (hA : Arg w (.slice a1 X.length c1) X) (hA2 : Arg w (.slice a2 Y.length c2) Y) (hT : Tab w) (hf1 : X.length ≤ 17592186044416) (hf2 : Y.length ≤ 17592186044416) (h0 : val X ≠ 0) (hY : val Y ≠ 0) (hup : 0 < up) (hex : ex - pos = (up : Int)) (hsz : blen (val X) + up ≤ 1125899906842624) (hlo : ((blen (val X) : Nat) : Int) - ((blen (val Y) : Nat) : Int) + up - 1 < 67108864) (hhi : -2 ≤ ((blen (val X) : Nat) : Int) - ((blen (val Y) : Nat) : Int) + up) (hq : blen (val X * 2 ^ up / val Y) ≤ 67108864) (hr : blen (val X * 2 ^ up % val Y) ≤ 67108864) :
    Calls Tryz.prog 13 #[.agg #[.slice a1 X.length c1, .slice a2 Y.length c2, .int .i64 ex], .int .i64 pos] w (Cnt w w.heap.size (val X * 2 ^ up / val Y) (leftN (val X * 2 ^ up % val Y) (val Y))) := by
  obtain ⟨w0, hw0, hb0, k0, k1⟩ := enter2 w (.cells #[.slice a1 X.length c1, .slice a2 Y.length c2, .int .i64 ex] 44) (.cells #[.slice none 0 0, .int .i64 0] 60)
  obtain ⟨x0, x1, x2⟩ := tri8 k0
  have HZ := nisZero_any _ X w0 (hA.below hb0)
  rw [decide_eq_false h0] at HZ
  have hlx : blen (val X) ≤ 64 * X.length := by
    rw [blen_le_iff, Nat.mul_comm, ← W_pow]; exact val_lt hA.limbs
  have hly : blen (val Y) ≤ 64 * Y.length := by
    rw [blen_le_iff, Nat.mul_comm, ← W_pow]; exact val_lt hA2.limbs
  obtain ⟨w1, hw1, hb1, k2⟩ := enter1 w0 (.cells #[.int .i64 (up : Int)] 3)
  have g1 := bl_trans8 hb0 hb1
  have wup : IntKind.i64.wrap (ex - pos) = (up : Int) := by rw [hex, IntKind.wrap_i64]; omega
  have LX := fun nq => length_val _ X (w1.drewN nq) ((hA.below g1).below (((Same.refl w1).drewN nq).below _))
  have LY := fun nq => length_val _ Y (w1.drewN nq) ((hA2.below g1).below (((Same.refl w1).drewN nq).below _))
  have WK := hide (fun (W : World) (hg : Below w1.heap.size w1 W) => nwork_up w0.heap.size w.heap.size a1 c1 X a2 c2 Y ex up W (block_upW hg k2) (block_upW (bl_trans8 hb1 hg) k0) ((hA.below g1).below hg) ((hA2.below g1).below hg) ((hT.below g1).below hg) hf2 h0 hY hup hsz hq hr)
  generalize hQ : val X * 2 ^ up / val Y = Q at *
  generalize hL : leftN (val X * 2 ^ up % val Y) (val Y) = lf at *
  obtain ⟨bx, hbx⟩ : ∃ bx, blen (val X) = bx := ⟨_, rfl⟩
  obtain ⟨yb, hyb⟩ : ∃ yb, blen (val Y) = yb := ⟨_, rfl⟩
  rw [hbx] at LX hlo hhi hlx
  rw [hyb] at LY hlo hhi hly
  obtain ⟨d, hd⟩ : ∃ d : Int, (bx : Int) - (yb : Int) = d := ⟨_, rfl⟩
  obtain ⟨tp, htp⟩ : ∃ tp : Int, d + (up : Int) = tp := ⟨_, rfl⟩
  have v1 : IntKind.i64.wrap d = d := by rw [IntKind.wrap_i64]; omega
  have v1' : (bx : Int) - (yb : Int) = d := hd
  have v2 : IntKind.i64.wrap tp = tp := by rw [IntKind.wrap_i64]; omega
  have v2' : d + (up : Int) = tp := htp
  have v3 : IntKind.i64.wrap (tp - 1) = tp - 1 := by rw [IntKind.wrap_i64]; omega
  have v4 : IntKind.i64.wrap (tp + 1) = tp + 1 := by rw [IntKind.wrap_i64]; omega
  have HLO := hide (show tp - 1 < 67108864 by omega)
  have HHI := hide (show -1 ≤ tp + 1 by omega)
  obtain ⟨y0, y1, y2⟩ := tri8 (block_upW hb1 k0)
  have z0 := one9 k2
  have HK1 := hide (block_upW hb1 k1)
  have HB := hide g1
  clear hA hA2 hT k0 k1 k2 hb0 hb1 g1 h0 hY hq hr hQ hL hbx hyb hd htp hex hlx hly hsz hlo hhi
  go_enter Tryz.func13, Tryz.ntmps13
  go_wp2_with fail
  refine HZ.mono ?_
  rintro e wn9 ⟨rfl, hw⟩; rw [hw]; clear hw wn9 HZ
  go_wp2_with fail
  go_quiet (first | (go_at_call_of 19 a1; exact (LX _).mono (fun _ _ h => ⟨h.1, _, h.2⟩)) | (go_at_call_of 19 a2; exact (LY _).mono (fun _ _ h => ⟨h.1, _, h.2⟩)))
  obtain ⟨wq, hwq⟩ : ∃ wq, wq = w1.drewN nq := ⟨_, rfl⟩
  have hbq : Below w1.heap.size w1 wq := by rw [hwq]; exact ((Same.refl w1).drewN nq).below _
  rw [← hwq]
  have HWI := nwithin_fr (tp - 1) (tp + 1) (.pointer (some ⟨w0.heap.size, 0, none⟩)) (.pointer (some ⟨w.heap.size, 0, none⟩)) Q lf wq HLO.out HHI.out (fun W hg => WK.out W (bl_trans8 hbq hg))
  replace HK1 := hide (block_upW hbq HK1.out)
  replace HB := hide (bl_trans8 HB.out hbq)
  clear hwq hbq LX LY WK y0 y1 y2 z0 x0 x1 x2 hw0 hw1
  go_wp2_with fail
  refine HWI.mono ?_
  rintro e t1 ⟨⟨a6, n6, k6, r6, rfl, hans6, hn6, hv6, ht6⟩, g1⟩
  have HL6 := hide hn6
  have HVT := hide (And.intro hv6 ht6)
  have HAN := hide (hans6.base HB.out.size)
  have HG := hide (bl_trans8 HB.out g1)
  have HC2 := hide (block_upW g1 HK1.out)
  have cf := duof HC2.out
  obtain ⟨cc0, cc1⟩ := duo HC2.out
  clear hn6 hv6 ht6 hans6 g1 HWI
  go_wp2
  have T3 := duo_all (a' := .slice a6 n6 k6) (b' := .int .i64 lf) HC2.out
  have T4 := below_duo (u0 := .slice a6 n6 k6) (u1 := .int .i64 lf) HG.out (Nat.le_succ _)
  have T5 := (HAN.out.off8 (o := 0) (u := .slice a6 n6 k6) HC2.out (by decide)).off8 (o := 1) (u := .int .i64 lf) (box_modify HC2.out _) (by decide)
  obtain ⟨p0, p1⟩ := duo T3
  have HE := hide (And.intro T5 T4)
  clear T3 T4 T5
  generalize (t1.setCell ⟨w.heap.size + 1, 0, none⟩ (.slice a6 n6 k6)).setCell ⟨w.heap.size + 1, 1, none⟩ (.int .i64 lf) = w5 at *
  refine bodyPost_ret (v := .tuple #[.agg #[.slice a6 n6 k6, .int .i64 lf], .int .i64 0]) (by simp [results, Tryz.results13, go_sem, p0, p1]) rfl ?_
  exact ⟨⟨_, _, _, r6, rfl, HE.out.1, HL6.out, HVT.out.1, HVT.out.2⟩, HE.out.2⟩

end Go.Proofs.YtppblbhkghjphaaGreatDoor

/- Package rounded: awayBy, and what it answers, for Down and Up. -/
namespace Go.Proofs.YtppblbhkghjphaaGreatDoor
open Go.RowKit
open Lm
attribute [local go_sem ↓] Go.wp_at_zero Go.wp_at_succ

theorem nawayBy_any (m : Int) (w : World) : Calls Tryz.prog 14 #[.int .i64 m] w fun e w' => e = .returned (.func (Fn.func 27) #[] #[.pointer (some ⟨w.heap.size, 0, none⟩)]) ∧ w'.heap[w.heap.size]? = some (.cells #[.int .i64 m] 33) ∧ Below w.heap.size w w' := by
  obtain ⟨w0, hw0, hb0, k0⟩ := enter1 w (.cells #[.int .i64 m] 33)
  have HK := hide (And.intro k0 hb0)
  clear k0 hb0
  go_enter Tryz.func14, Tryz.ntmps14
  go_wp2
  go_ret
  exact ⟨rfl, HK.out.1, HK.out.2⟩

set_option maxHeartbeats 1000000 in
theorem naway_down (b : Bool) (a : Option Addr) (n k : Nat) (l : Int) (g : Nat) (w : World) (hg : w.heap[g]? = some (.cells #[.int .i64 0] 33)) :
    Calls Tryz.prog 27 #[.bool b, .agg #[.slice a n k, .int .i64 l], .pointer (some ⟨g, 0, none⟩)] w fun e w' => e = .returned (.bool (b && (l != 0))) ∧ Below w.heap.size w w' := by
  obtain ⟨w0, hw0, hb0, k0⟩ := enter1 w (.cells #[.slice a n k, .int .i64 l] 60)
  obtain ⟨x0, x1⟩ := duo k0
  have y0 := one9 (block_upW hb0 hg)
  have HB := hide hb0
  clear k0 hb0 hg
  cases b
  · go_enter Tryz.func27, Tryz.ntmps27
    go_wp2
    go_ret
    exact ⟨rfl, HB.out⟩
  · rw [Bool.true_and]
    generalize hl : (l != 0) = lb at *
    have hl2 : (l != 0) = lb := hl
    clear hl
    go_enter Tryz.func27, Tryz.ntmps27
    go_wp2
    go_ret
    exact ⟨rfl, HB.out⟩

set_option maxHeartbeats 1000000 in
theorem naway_up (b : Bool) (a : Option Addr) (n k : Nat) (l : Int) (g : Nat) (w : World) (hg : w.heap[g]? = some (.cells #[.int .i64 1] 33)) :
    Calls Tryz.prog 27 #[.bool b, .agg #[.slice a n k, .int .i64 l], .pointer (some ⟨g, 0, none⟩)] w fun e w' => e = .returned (.bool (!b && (l != 0))) ∧ Below w.heap.size w w' := by
  obtain ⟨w0, hw0, hb0, k0⟩ := enter1 w (.cells #[.slice a n k, .int .i64 l] 60)
  obtain ⟨x0, x1⟩ := duo k0
  have y0 := one9 (block_upW hb0 hg)
  have HB := hide hb0
  clear k0 hb0 hg
  cases b
  · rw [Bool.not_false, Bool.true_and]
    generalize hl : (l != 0) = lb at *
    have hl2 : (l != 0) = lb := hl
    clear hl
    go_enter Tryz.func27, Tryz.ntmps27
    go_wp2
    go_ret
    exact ⟨rfl, HB.out⟩
  · go_enter Tryz.func27, Tryz.ntmps27
    go_wp2
    go_ret
    exact ⟨rfl, HB.out⟩

end Go.Proofs.YtppblbhkghjphaaGreatDoor

/- Package rounded: meant of one and of two numbers. -/
namespace Go.Proofs.YtppblbhkghjphaaGreatDoor
open Go.RowKit
open Lm
attribute [local go_sem ↓] Go.wp_at_zero Go.wp_at_succ

set_option maxRecDepth 20000 in
set_option maxHeartbeats 1000000 in
theorem nmeant1 (gs : Nat) (b1 : Bool) (a1 : Option Addr) (n1 k1 : Nat) (ex1 : Int) (w : World) (hg : w.heap[gs]? = some (.cells #[.bool b1, .slice a1 n1 k1, .int .i64 ex1] 28)) (hE1 : fitE ex1 = true) :
    Calls Tryz.prog 10 #[.slice (some ⟨gs, 0, none⟩) 1 1] w fun e w' => e = .returned (.bool true) ∧ Below w.heap.size w w' := by
  have HS := hide hg
  have HB : Hid (Below w.heap.size w w) := hide (Below.refl _ _)
  clear hg
  go_enter Tryz.func10, Tryz.ntmps10
  go_wp2
  refine wp_loop_rounds 2 ?_
  rw [rounds_succ]
  obtain ⟨u1, hu1, hbu1, qu1⟩ := enter1 w (.cells #[.bool b1, .slice a1 n1 k1, .int .i64 ex1] 28)
  obtain ⟨x0, x1, x2⟩ := tri8 qu1
  have C := npos_any ex1 u1
  rw [hE1] at C
  have CS := block_upW HB.out HS.out
  have c0 : w.cell? ⟨gs, 0, none⟩ = some (.bool b1) := by simp [World.cell?, CS]
  have c1 : w.cell? ⟨gs, 1, none⟩ = some (.slice a1 n1 k1) := by simp [World.cell?, CS]
  have c2 : w.cell? ⟨gs, 2, none⟩ = some (.int .i64 ex1) := by simp [World.cell?, CS]
  replace HB := hide (bl_trans8 HB.out hbu1)
  clear CS hbu1 qu1
  go_wp2_with fail
  refine C.mono ?_
  rintro e wn ⟨rfl, hw⟩; rw [hw]; clear hw wn C
  go_wp2
  clear x0 x1 x2 c0 c1 c2 hu1
  rw [rounds_succ]
  go_wp2
  go_ret
  exact ⟨rfl, HB.out⟩

set_option maxRecDepth 20000 in
set_option maxHeartbeats 1000000 in
theorem nmeant2 (gs : Nat) (b1 : Bool) (a1 : Option Addr) (n1 k1 : Nat) (ex1 : Int) (b2 : Bool) (a2 : Option Addr) (n2 k2 : Nat) (ex2 : Int) (w : World) (hg : w.heap[gs]? = some (.cells #[.bool b1, .slice a1 n1 k1, .int .i64 ex1, .bool b2, .slice a2 n2 k2, .int .i64 ex2] 28)) (hE1 : fitE ex1 = true) (hE2 : fitE ex2 = true) :
    Calls Tryz.prog 10 #[.slice (some ⟨gs, 0, none⟩) 2 2] w fun e w' => e = .returned (.bool true) ∧ Below w.heap.size w w' := by
  have HS := hide hg
  have HB : Hid (Below w.heap.size w w) := hide (Below.refl _ _)
  clear hg
  go_enter Tryz.func10, Tryz.ntmps10
  go_wp2
  refine wp_loop_rounds 3 ?_
  rw [rounds_succ]
  obtain ⟨u1, hu1, hbu1, qu1⟩ := enter1 w (.cells #[.bool b1, .slice a1 n1 k1, .int .i64 ex1] 28)
  obtain ⟨x0, x1, x2⟩ := tri8 qu1
  have C := npos_any ex1 u1
  rw [hE1] at C
  have CS := block_upW HB.out HS.out
  have c0 : w.cell? ⟨gs, 0, none⟩ = some (.bool b1) := by simp [World.cell?, CS]
  have c1 : w.cell? ⟨gs, 1, none⟩ = some (.slice a1 n1 k1) := by simp [World.cell?, CS]
  have c2 : w.cell? ⟨gs, 2, none⟩ = some (.int .i64 ex1) := by simp [World.cell?, CS]
  replace HB := hide (bl_trans8 HB.out hbu1)
  clear CS hbu1 qu1
  go_wp2_with fail
  refine C.mono ?_
  rintro e wn ⟨rfl, hw⟩; rw [hw]; clear hw wn C
  go_wp2
  clear x0 x1 x2 c0 c1 c2 hu1
  rw [rounds_succ]
  obtain ⟨u2, hu2, hbu2, qu2⟩ := enter1 u1 (.cells #[.bool b2, .slice a2 n2 k2, .int .i64 ex2] 28)
  obtain ⟨x0, x1, x2⟩ := tri8 qu2
  have C := npos_any ex2 u2
  rw [hE2] at C
  have CS := block_upW HB.out HS.out
  have c0 : u1.cell? ⟨gs, 3, none⟩ = some (.bool b2) := by simp [World.cell?, CS]
  have c1 : u1.cell? ⟨gs, 4, none⟩ = some (.slice a2 n2 k2) := by simp [World.cell?, CS]
  have c2 : u1.cell? ⟨gs, 5, none⟩ = some (.int .i64 ex2) := by simp [World.cell?, CS]
  replace HB := hide (bl_trans8 HB.out hbu2)
  clear CS hbu2 qu2
  go_wp2_with fail
  refine C.mono ?_
  rintro e wn ⟨rfl, hw⟩; rw [hw]; clear hw wn C
  go_wp2
  clear x0 x1 x2 c0 c1 c2 hu2
  rw [rounds_succ]
  go_wp2
  go_ret
  exact ⟨rfl, HB.out⟩

end Go.Proofs.YtppblbhkghjphaaGreatDoor

/- Package rounded: what a call answers of a fraction that goes to the next step. -/
namespace Go.Proofs.YtppblbhkghjphaaGreatDoor
open Go.RowKit
open Lm
attribute [local go_sem ↓] Go.wp_at_zero Go.wp_at_succ

theorem Ans.len10 {w : World} {base : Nat} {a : Option Addr} {n k : Nat} {rs : List Nat} (h : Ans w base (.slice a n k) rs) : n = rs.length := by
  obtain ⟨_, h2⟩ := h.own
  rcases h2 with ⟨e, h0⟩ | ⟨g, cap, cur, e, _⟩
  · cases e; exact h0.symm
  · cases e; rfl

/-- A rounded number that was answered. -/
def RAns (w : World) (b : Bool) (x : Nat) (ex : Int) (e : Ending) (w' : World) : Prop :=
  (∃ a n k rs, e = .returned (.tuple #[.agg #[.bool b, .slice a n k, .int .i64 ex], .int .i64 0]) ∧ Ans w' w.heap.size (.slice a n k) rs ∧ val rs = x ∧ tr rs = rs) ∧ Below w.heap.size w w'

set_option maxRecDepth 20000 in
set_option maxHeartbeats 4000000 in
theorem nansUp_fr (v1 v2 : Value) (ex pos : Int) (gm Q : Nat) (l : Int) (t : Nat) (w : World) (hT : Tab w) (hm : w.heap[gm]? = some (.cells #[.int .i64 1] 33)) (HC : ∀ W, Below w.heap.size w W → Calls Tryz.prog 13 #[.agg #[v1, v2, .int .i64 ex], .int .i64 pos] W (Cnt W W.heap.size Q l)) (hl : l ≠ 0) (hq : blen (Q + 1) ≤ 67108864) (hq0 : blen Q ≤ 67108864) (ht : IsTail (Q + 1) t) (hE : fitE (pos + t) = true) :
    Calls Tryz.prog 12 #[.bool false, .func (Fn.func 13) #[.agg #[v1, v2, .int .i64 ex]] #[], .int .i64 pos, .func (Fn.func 27) #[] #[.pointer (some ⟨gm, 0, none⟩)]] w (RAns w false ((Q + 1) / 2 ^ t) (pos + t)) := by
  obtain ⟨w0, hw0, hb0, q0⟩ := enter1 w (.cells #[.bool false, .slice none 0 0, .int .i64 0] 28)
  have C := HC w0 hb0
  have HB0 := hide hb0
  have HQ0 := hide q0
  have HT0 := hide hT
  have HT := hide (hT.below hb0)
  have HM := hide (block_upW hb0 hm)
  have HL : Hid (l ≠ 0) := hide hl
  have HQQ := hide (And.intro hq (And.intro hq0 ht))
  have HEE := hide hE
  clear hb0 q0 hT hm hl hq hq0 ht hE HC
  go_enter Tryz.func12, Tryz.ntmps12
  go_wp2_with fail
  refine C.mono ?_
  rintro e t1 ⟨⟨a1, n1, k1, r1, rfl, ha1, hn1, hv1, ht1⟩, g1⟩
  obtain ⟨w2, hw2, hb2, q2⟩ := enter1 t1 (.cells #[.slice a1 n1 k1, .int .i64 l] 60)
  have s2 := bl_trans8 g1 hb2
  have HSZ : Hid (w.heap.size ≤ t1.heap.size ∧ w.heap.size < t1.heap.size) := hide (by have h1 := lt_of_block HQ0.out; have h2 := g1.size; omega)
  have HC2 := hide (block_upW s2 HQ0.out)
  have HG2 := hide (bl_trans8 HB0.out s2)
  have HT2 := hide (HT.out.below s2)
  have HA1 := hide (ha1.below hb2)
  have HV1 := hide (And.intro hn1 (And.intro hv1 ht1))
  have HX2 := hide q2
  have C := naway_up false a1 n1 k1 l gm w2 (block_upW s2 HM.out)
  rw [show (!false && (l != 0)) = true by simp [HL.out]] at C
  clear g1 hb2 s2 q2 ha1 hn1 hv1 ht1 hw0
  obtain ⟨y0, y1⟩ := duo HX2.out
  go_wp2_with fail
  refine C.mono ?_
  rintro e t3 ⟨rfl, g3⟩
  have HX3 := hide (block_upW g3 HX2.out)
  have HC3 := hide (block_upW g3 HC2.out)
  have HG3 := hide (bl_trans8 HG2.out g3)
  have HT3 := hide (HT2.out.below g3)
  have HA3 := hide (HA1.out.below g3)
  clear C g3 y0 y1 hw2 HX2 HC2 HG2 HT2 HA1 HT HM HB0 HQ0
  have hfew : r1.length ≤ 1048576 := few_ofW HV1.out.2.2 HV1.out.2.1 HQQ.out.2.1
  have HF := hide hfew
  clear hfew
  have ADD := hide (fun (W : World) (a4 : Option Addr) (n4 k4 : Nat) (B : Nat) (hv : Ans W B (.slice a4 n4 k4) (tr [1])) (hg : Below t3.heap.size t3 W) => show Calls Tryz.prog 20 #[.slice a1 n1 k1, .slice a4 n4 k4] W (fun e w' => (∃ a n k rs, e = .returned (.tuple #[.slice a n k, .int .i64 0]) ∧ Ans w' W.heap.size (.slice a n k) rs ∧ n = rs.length ∧ val rs = Q + 1 ∧ tr rs = rs) ∧ Below W.heap.size W w') by
    have e1 : tr [1] = [1] := by decide
    refine (add_any (.slice a1 n1 k1) (.slice a4 n4 k4) r1 (tr [1]) W ((HA3.out.below hg).arg (by have := HF.out; omega)) (hv.arg (by rw [e1]; simp)) (by have := HF.out; omega) (by rw [e1]; simp)).mono fun e w' h => ?_
    obtain ⟨hb, v5, c5, r5, rfl, ha5, h5⟩ := h
    have hs : val r1 + val (tr [1]) = Q + 1 := by rw [HV1.out.2.1, e1]; simp [val]
    rw [hs] at h5
    rcases h5 with ⟨rfl, h6, h7, _⟩ | ⟨_, _, h6⟩
    · obtain ⟨a5, n5, k5, rfl⟩ := ha5.slice
      exact ⟨⟨a5, n5, k5, r5, rfl, ha5, ha5.len10, h6, h7⟩, hb⟩
    · exact absurd h6 (by have := HQQ.out.1; omega))
  have HX3d := hide (show t3.drew.heap[t1.heap.size]? = some (.cells #[.slice a1 n1 k1, .int .i64 l] 60) from HX3.out)
  obtain ⟨y0, y1⟩ := duo HX3.out
  have g0 : Below t3.heap.size t3 t3.drew := (Below.refl _ _).drew
  have HGE : Hid (w.heap.size ≤ t1.heap.size) := hide HSZ.out.1
  have HNE : Hid (w.heap.size ≠ t1.heap.size) := hide (by have := HSZ.out; omega)
  go_upto_region 3 with fail
  go_cut [11] from 26 to 33 (fun s wx => ∃ (a : Option Addr) (n k : Nat) (rs : List Nat), s = .int .i64 0 ∧ wx.heap[t1.heap.size]? = some (.cells #[.slice a n k, .int .i64 l] 60) ∧ Ans wx w.heap.size (.slice a n k) rs ∧ n = rs.length ∧ val rs = Q + 1 ∧ tr rs = rs ∧ Below w.heap.size w wx ∧ wx.heap[w.heap.size]? = some (.cells #[.bool false, .slice none 0 0, .int .i64 0] 28))
  case first =>
    go_region_with (first
      | (go_at_call 20; refine (ADD.out _ a4 n4 k4 _ ha4 g4).mono ?_; rintro e' t5 ⟨⟨a5, n5, k5, r5, rfl, ha5, rfl, hv5, ht5⟩, hb5⟩; have g5 := bl_trans8 g4 hb5; have hx5 := block_upW g5 HX3.out; have hf5 := duof hx5; obtain ⟨z0, z1⟩ := duo hx5)
      | (go_at_call 21; refine (from_any 1 _ (by decide)).mono ?_; rintro e' t4 ⟨⟨v4, rfl, ha4⟩, hb4⟩; obtain ⟨a4, n4, k4, rfl⟩ := ha4.slice; have g4 : Below t3.heap.size t3 t4 := bl_trans8 g0 hb4; have hx4 := block_upW g4 HX3.out; obtain ⟨z2, z3⟩ := duo hx4))
    all_goals (go_wp2_with fail; go_meet; exact ⟨a5, _, k5, r5, rfl, box_modify (k := 0) hx5 _, (ha5.base (Nat.le_trans HG3.out.size g4.size)).off8 hx5 (by decide), rfl, hv5, ht5, (bl_trans8 HG3.out g5).setCell (p := ⟨t1.heap.size, 0, none⟩) HGE.out _, (Below.heap_setCell _ _ _ _ HNE.out).trans (block_upW g5 HC3.out)⟩)
  case rest =>
    obtain ⟨a7, n7, k7, r7, rfl, hx7, ha7, rfl, hv7, ht7, hb7, hc7⟩ := hcut
    have HC8 := hide hc7
    have HG8 := hide hb7
    have hf7 : r7.length ≤ 1048576 := few_ofW ht7 hv7 HQQ.out.1
    have C := nnormal_any false a7 k7 r7 pos t wc (ha7.arg (by omega)) (HT0.out.below hb7) (by omega) (by rw [hv7]; omega) (by rw [hv7]; exact HQQ.out.2.2) (by rw [hv7]; exact HQQ.out.1) HEE.out
    rw [hv7] at C
    clear ADD HX3d g0 y0 y1 HX3 HC3 HG3 HT3 HA3 hb7 hc7 ha7 hv7 ht7 hf7
    obtain ⟨y0, y1⟩ := duo hx7
    clear hx7
    go_wp2_with fail
    refine C.mono ?_
    rintro e t9 ⟨⟨a9, n9, k9, r9, rfl, ha9, hv9, ht9⟩, g9⟩
    have HC9 := hide (block_upW g9 HC8.out)
    have HG9 := hide (bl_trans8 HG8.out g9)
    have HA9 := hide (ha9.base HG8.out.size)
    have HV9 := hide (And.intro hv9 ht9)
    clear C g9 ha9 hv9 ht9
    have hf9 := tri8f HC9.out
    obtain ⟨m0, m1, m2⟩ := tri8 HC9.out
    go_wp2
    have T3 := tri8_all HC9.out (.bool false) (.slice a9 n9 k9) (.int .i64 (pos + t))
    have T4 := below_tri8 HG9.out (Nat.le_refl _) (.bool false) (.slice a9 n9 k9) (.int .i64 (pos + t))
    have T5 := HA9.out.tri8 HC9.out (by decide) (.bool false) (.slice a9 n9 k9) (.int .i64 (pos + t))
    obtain ⟨p0, p1, p2⟩ := tri8 T3
    have HE := hide (And.intro T5 T4)
    clear T3 T4 T5
    generalize ((t9.setCell ⟨w.heap.size, 0, none⟩ (.bool false)).setCell ⟨w.heap.size, 1, none⟩ (.slice a9 n9 k9)).setCell ⟨w.heap.size, 2, none⟩ (.int .i64 (pos + t)) = w9 at *
    refine bodyPost_ret (v := .tuple #[.agg #[.bool false, .slice a9 n9 k9, .int .i64 (pos + t)], .int .i64 0]) (by simp [results, Tryz.results12, go_sem, p0, p1, p2]) rfl ?_
    exact ⟨⟨_, _, _, _, rfl, HE.out.1, HV9.out.1, HV9.out.2⟩, HE.out.2⟩

end Go.Proofs.YtppblbhkghjphaaGreatDoor

/- Package rounded: the document's example of a quotient. -/
namespace Go.Proofs.YtppblbhkghjphaaGreatDoor
open Go.RowKit
open Lm
attribute [local go_sem ↓] Go.wp_at_zero Go.wp_at_succ

theorem bl1 : blen (val [1]) = 1 := by decide
theorem bl3 : blen (val [3]) = 2 := by decide

theorem steps13 (a1 : Option Addr) (c1 : Nat) (a2 : Option Addr) (c2 : Nat) (w : World) (hA : Arg w (.slice a1 1 c1) [1]) (hB : Arg w (.slice a2 1 c2) [3]) (hT : Tab w) :
    Calls Tryz.prog 13 #[.agg #[.slice a1 1 c1, .slice a2 1 c2, .int .i64 0], .int .i64 (-4)] w (Cnt w w.heap.size 5 1) := by
  have h := nsteps_up a1 c1 [1] a2 c2 [3] 0 (-4) 4 w hA hB hT (by simp) (by simp) (by decide) (by decide) (by decide) (by decide) (by rw [bl1]; decide) (by rw [bl1, bl3]; decide) (by rw [bl1, bl3]; decide) (by decide) (by decide)
  exact h

theorem tri_other {w : World} {g h : Nat} (hn : h ≠ g) (u0 u1 u2 : Value) : (((w.setCell ⟨g, 0, none⟩ u0).setCell ⟨g, 1, none⟩ u1).setCell ⟨g, 2, none⟩ u2).heap[h]? = w.heap[h]? := by
  rw [Below.heap_setCell _ _ _ _ hn, Below.heap_setCell _ _ _ _ hn, Below.heap_setCell _ _ _ _ hn]

set_option maxRecDepth 20000 in
set_option maxHeartbeats 4000000 in
theorem nquo13 (a1 : Option Addr) (c1 : Nat) (a2 : Option Addr) (c2 : Nat) (w : World) (hA : Arg w (.slice a1 1 c1) [1]) (hB : Arg w (.slice a2 1 c2) [3]) (hT : Tab w) :
    Calls Tryz.prog 5 #[.agg #[.bool false, .slice a1 1 c1, .int .i64 0], .agg #[.bool false, .slice a2 1 c2, .int .i64 0], .int .i64 (-4), .int .i64 1] w (RAns w false 3 (-3)) := by
  obtain ⟨w0, hw0, hb0, q0, q1, q9⟩ := enter3 w (.cells #[.bool false, .slice a1 1 c1, .int .i64 0] 28) (.cells #[.bool false, .slice a2 1 c2, .int .i64 0] 28) (.cells #[.bool false, .slice none 0 0, .int .i64 0] 28)
  obtain ⟨w1, hw1, hb1, qf⟩ := enter1 w0 (.cells #[.bool false, .slice a1 1 c1, .int .i64 0, .bool false, .slice a2 1 c2, .int .i64 0] 28)
  have C0 := nfault_ok (-4) 1 w0 (by decide) (by decide) (by decide)
  have C1 := nmeant2 w0.heap.size false a1 1 c1 0 false a2 1 c2 0 w1 qf (by decide) (by decide)
  have s1 := bl_trans8 hb0 hb1
  have HU1 := hide s1
  have HQ0 := hide (block_upW hb1 q0)
  have HQ1 := hide (block_upW hb1 q1)
  have HQ9 : Hid (w1.heap[w.heap.size + 1 + 1]? = some (.cells #[.bool false, .slice none 0 0, .int .i64 0] 28)) := hide (block_upW hb1 q9)
  have HAB := hide (And.intro hA (And.intro hB hT))
  obtain ⟨y0, y1, y2⟩ := tri8 q0
  obtain ⟨y3, y4, y5⟩ := tri8 q1
  clear q0 q1 q9 qf hb0 hb1 s1 hA hB hT
  go_enter Tryz.func5, Tryz.ntmps5
  go_wp2_with fail
  refine C0.mono ?_
  rintro e wn ⟨rfl, hw⟩; rw [hw]; clear hw wn C0
  go_wp2_with fail
  refine C1.mono ?_
  rintro e t2 ⟨rfl, g2⟩
  have HG2 := hide (bl_trans8 HU1.out g2)
  have HP0 := hide (block_upW g2 HQ0.out)
  have HP1 := hide (block_upW g2 HQ1.out)
  have HP9 := hide (block_upW g2 HQ9.out)
  clear C1 g2 y0 y1 y2 y3 y4 y5 hw0 hw1 HQ0 HQ1 HQ9
  have C := nisZero_any (.slice a2 1 c2) [3] t2 (HAB.out.2.1.below HG2.out)
  rw [show decide (val [3] = 0) = false by decide] at C
  obtain ⟨y0, y1, y2⟩ := tri8 HP0.out
  obtain ⟨y3, y4, y5⟩ := tri8 HP1.out
  obtain ⟨w3, hw3, hb3, q3⟩ := enter1 t2 (.cells #[.slice a1 1 c1, .slice a2 1 c2, .int .i64 0] 44)
  have f3 := tri8f q3 2
  have e3 := (tri8 q3).2.2
  obtain ⟨w4, hw4⟩ : ∃ w4, w3.setCell ⟨t2.heap.size, 2, none⟩ (.int .i64 0) = w4 := ⟨_, rfl⟩
  have q4 : w4.heap[t2.heap.size]? = some (.cells #[.slice a1 1 c1, .slice a2 1 c2, .int .i64 0] 44) := by rw [← hw4]; exact box_modify q3 _
  have hb4 : Below t2.heap.size t2 w4 := by rw [← hw4]; exact hb3.setCell (p := ⟨t2.heap.size, 2, none⟩) (Nat.le_refl _) _
  have HG4 := hide (bl_trans8 HG2.out hb4)
  have HP04 := hide (block_upW hb4 HP0.out)
  have HP14 := hide (block_upW hb4 HP1.out)
  have HP94 := hide (block_upW hb4 HP9.out)
  have HF4 := hide q4
  have HLT : Hid (w.heap.size + 1 + 1 < t2.heap.size) := hide (lt_of_block HP9.out)
  clear hb3 hb4 q3 q4
  go_wp2_with fail
  refine C.mono ?_
  rintro e wn ⟨rfl, hw⟩; rw [hw]; clear hw wn C
  go_upto_region 9 with fail
  clear y0 y1 y2 y3 y4 y5 e3 f3 hw3 hw4 HP0 HP1 HP9 HG2 HU1
  have gd0 : Below w.heap.size w w4.drew := HG4.out.drew
  have g0 : Below w4.drew.heap.size w4.drew w4.drew := Below.refl _ _
  have KH := hide (fun (W : World) (h1 : W.heap[w.heap.size]? = some (.cells #[.bool false, .slice a1 1 c1, .int .i64 0] 28)) (h2 : W.heap[w.heap.size + 1]? = some (.cells #[.bool false, .slice a2 1 c2, .int .i64 0] 28)) (h3 : W.heap[t2.heap.size]? = some (.cells #[.slice a1 1 c1, .slice a2 1 c2, .int .i64 0] 44)) => show W.cell? ⟨w.heap.size, 0, none⟩ = some (.bool false) ∧ W.cell? ⟨w.heap.size + 1, 0, none⟩ = some (.bool false) ∧ W.cell? ⟨t2.heap.size, 0, none⟩ = some (.slice a1 1 c1) ∧ W.cell? ⟨t2.heap.size, 1, none⟩ = some (.slice a2 1 c2) ∧ W.cell? ⟨t2.heap.size, 2, none⟩ = some (.int .i64 0) from ⟨(tri8 h1).1, (tri8 h2).1, tri8 h3⟩)
  have KS := hide (fun (W : World) (hg : Below w4.drew.heap.size w4.drew W) => KH.out W (block_upW hg HP04.out) (block_upW hg HP14.out) (block_upW hg HF4.out))
  have KT := hide (fun (W : World) (u0 u1 u2 : Value) (hg : Below w4.drew.heap.size w4.drew W) => KH.out (((W.setCell ⟨w.heap.size + 1 + 1, 0, none⟩ u0).setCell ⟨w.heap.size + 1 + 1, 1, none⟩ u1).setCell ⟨w.heap.size + 1 + 1, 2, none⟩ u2) ((tri_other (by omega) u0 u1 u2).trans (block_upW hg HP04.out)) ((tri_other (by omega) u0 u1 u2).trans (block_upW hg HP14.out)) ((tri_other (by have := HLT.out; omega) u0 u1 u2).trans (block_upW hg HF4.out)))
  have U1 := nawayBy_any 1 w4.drew
  have U2 := hide (fun (W : World) (gm : Nat) (hg : Below w4.drew.heap.size w4.drew W) (hm : W.heap[gm]? = some (.cells #[.int .i64 1] 33)) => show Calls Tryz.prog 12 #[.bool false, .func (Fn.func 13) #[.agg #[.slice a1 1 c1, .slice a2 1 c2, .int .i64 0]] #[], .int .i64 (-4), .func (Fn.func 27) #[] #[.pointer (some ⟨gm, 0, none⟩)]] W (RAns W false 3 (-3)) from
    nansUp_fr (.slice a1 1 c1) (.slice a2 1 c2) 0 (-4) gm 5 1 1 W (HAB.out.2.2.below (bl_trans8 gd0 hg)) hm (fun W2 h2 => steps13 a1 c1 a2 c2 W2 ((HAB.out.1.below (bl_trans8 gd0 hg)).below h2) ((HAB.out.2.1.below (bl_trans8 gd0 hg)).below h2) ((HAB.out.2.2.below (bl_trans8 gd0 hg)).below h2)) (by decide) (by decide) (by decide) ⟨by decide, by decide⟩ (by decide))
  have H9 := hide (show w4.drew.heap[w.heap.size + 1 + 1]? = some (.cells #[.bool false, .slice none 0 0, .int .i64 0] 28) from HP94.out)
  obtain ⟨y0, y1, y2, y3, y4⟩ := KS.out _ g0
  go_region_held3 (fun W => W.cell? ⟨w.heap.size, 0, none⟩ = some (.bool false) ∧ W.cell? ⟨w.heap.size + 1, 0, none⟩ = some (.bool false) ∧ W.cell? ⟨t2.heap.size, 0, none⟩ = some (.slice a1 1 c1) ∧ W.cell? ⟨t2.heap.size, 1, none⟩ = some (.slice a2 1 c2) ∧ W.cell? ⟨t2.heap.size, 2, none⟩ = some (.int .i64 0)) (first | with_reducible exact KS.out _ g2 | with_reducible exact KS.out _ g1 | with_reducible exact KS.out _ g0 | with_reducible exact KT.out _ _ _ _ g2) (first
    | (go_at_call 14; refine U1.mono ?_; rintro e' t5 ⟨rfl, hm5, g1⟩)
    | (go_at_call 12; refine (U2.out t5 _ g1 hm5).mono ?_; rintro e' t6 ⟨⟨a6, n6, k6, r6, rfl, ha6, hv6, ht6⟩, hb6⟩; have g2 := bl_trans8 g1 hb6; have hz := block_upW g2 H9.out; have hf := tri8f hz; obtain ⟨m0, m1, m2⟩ := tri8 hz))
  all_goals
    have T3 := tri8_all hz (.bool false) (.slice a6 n6 k6) (.int .i64 (-3))
    have T4 := below_tri8 (bl_trans8 gd0 g2) (g := w.heap.size + 1 + 1) (by omega) (.bool false) (.slice a6 n6 k6) (.int .i64 (-3))
    have T5 := (((ha6.base ((bl_trans8 gd0 g1).size)).off8 (o := 0) (u := .bool false) hz (by decide)).off8 (o := 1) (u := .slice a6 n6 k6) (box_modify hz _) (by decide)).off8 (o := 2) (u := .int .i64 (-3)) (box_modify (box_modify hz _) _) (by decide)
    obtain ⟨p0, p1, p2⟩ := tri8 T3
    have HE := hide (And.intro T5 T4)
    have HV := hide (And.intro hv6 ht6)
    clear T3 T4 T5 hz hf m0 m1 m2 y0 y1 y2 y3 y4 KS KT KH U1 U2 H9 g0 g1 g2 hb6 ha6 hv6 ht6 hm5 gd0
    generalize ((t6.setCell ⟨w.heap.size + 1 + 1, 0, none⟩ (.bool false)).setCell ⟨w.heap.size + 1 + 1, 1, none⟩ (.slice a6 n6 k6)).setCell ⟨w.heap.size + 1 + 1, 2, none⟩ (.int .i64 (-3)) = w7 at *
    go_wp2
    refine bodyPost_ret (v := .tuple #[.agg #[.bool false, .slice a6 n6 k6, .int .i64 (-3)], .int .i64 0]) (by simp [results, Tryz.results5, go_sem, p0, p1, p2]) rfl ?_
    exact ⟨⟨_, _, _, r6, rfl, HE.out.1, HV.out.1, HV.out.2⟩, HE.out.2⟩

end Go.Proofs.YtppblbhkghjphaaGreatDoor

/- Package rounded: the whole part of a root; within over a root's work; answer over a root, going down. -/
namespace Go.Proofs.YtppblbhkghjphaaGreatDoor
open Go.RowKit
open Lm
attribute [local go_sem ↓] Go.wp_at_zero Go.wp_at_succ

set_option maxRecDepth 20000 in

set_option maxRecDepth 20000 in
set_option maxHeartbeats 4000000 in
theorem nansDown_rt (v1 : Value) (ex pos : Int) (gm Q : Nat) (l : Int) (t : Nat) (w : World) (hT : Tab w) (hm : w.heap[gm]? = some (.cells #[.int .i64 0] 33)) (HC : ∀ W, Below w.heap.size w W → Calls Tryz.prog 15 #[.agg #[v1, .int .i64 ex], .int .i64 pos] W (Cnt W W.heap.size Q l)) (h0 : Q ≠ 0) (hq0 : blen Q ≤ 67108864) (ht : IsTail Q t) (hE : fitE (pos + t) = true) :
    Calls Tryz.prog 12 #[.bool false, .func (Fn.func 15) #[.agg #[v1, .int .i64 ex]] #[], .int .i64 pos, .func (Fn.func 27) #[] #[.pointer (some ⟨gm, 0, none⟩)]] w (RAns w false (Q / 2 ^ t) (pos + t)) := by
  obtain ⟨w0, hw0, hb0, q0⟩ := enter1 w (.cells #[.bool false, .slice none 0 0, .int .i64 0] 28)
  have C := HC w0 hb0
  have HB0 := hide hb0
  have HQ0 := hide q0
  have HT0 := hide hT
  have HM := hide (block_upW hb0 hm)
  have HQQ := hide (And.intro h0 (And.intro hq0 ht))
  have HEE := hide hE
  clear hb0 q0 hT hm h0 hq0 ht hE HC
  go_enter Tryz.func12, Tryz.ntmps12
  go_wp2_with fail
  refine C.mono ?_
  rintro e t1 ⟨⟨a1, n1, k1, r1, rfl, ha1, hn1, hv1, ht1⟩, g1⟩
  obtain ⟨w2, hw2, hb2, q2⟩ := enter1 t1 (.cells #[.slice a1 n1 k1, .int .i64 l] 60)
  have s2 := bl_trans8 g1 hb2
  have HC2 := hide (block_upW s2 HQ0.out)
  have HG2 := hide (bl_trans8 HB0.out s2)
  have HA1 := hide (ha1.below hb2)
  have HV1 := hide (And.intro hn1 (And.intro hv1 ht1))
  have HX2 := hide q2
  have C := naway_down false a1 n1 k1 l gm w2 (block_upW s2 HM.out)
  rw [show (false && (l != 0)) = false by simp] at C
  clear g1 hb2 s2 q2 ha1 hn1 hv1 ht1 hw0
  obtain ⟨y0, y1⟩ := duo HX2.out
  go_wp2_with fail
  refine C.mono ?_
  rintro e t3 ⟨rfl, g3⟩
  have HC8 := hide (block_upW g3 HC2.out)
  have HG8 := hide (bl_trans8 HG2.out g3)
  have hx3 := block_upW g3 HX2.out
  have hA3 := HA1.out.below g3
  obtain ⟨hn1, hv1, ht1⟩ := HV1.out
  have hf7 : r1.length ≤ 1048576 := few_ofW ht1 hv1 HQQ.out.2.1
  clear C y0 y1
  subst hn1
  have C := nnormal_any false a1 k1 r1 pos t t3 (hA3.arg (by omega)) (HT0.out.below HG8.out) (by omega) (by rw [hv1]; exact HQQ.out.1) (by rw [hv1]; exact HQQ.out.2.2) (by rw [hv1]; exact HQQ.out.2.1) HEE.out
  rw [hv1] at C
  obtain ⟨y0, y1⟩ := duo hx3
  clear g3 hw2 HX2 HC2 HG2 HA1 HM HB0 HQ0 hx3 hA3 hv1 ht1 hf7 HV1
  generalize r1.length = n1 at *
  go_wp2_with fail
  refine C.mono ?_
  rintro e t9 ⟨⟨a9, n9, k9, r9, rfl, ha9, hv9, ht9⟩, g9⟩
  have HC9 := hide (block_upW g9 HC8.out)
  have HG9 := hide (bl_trans8 HG8.out g9)
  have HA9 := hide (ha9.base HG8.out.size)
  have HV9 := hide (And.intro hv9 ht9)
  clear C g9 ha9 hv9 ht9
  have hf9 := tri8f HC9.out
  obtain ⟨m0, m1, m2⟩ := tri8 HC9.out
  go_wp2
  have T3 := tri8_all HC9.out (.bool false) (.slice a9 n9 k9) (.int .i64 (pos + t))
  have T4 := below_tri8 HG9.out (Nat.le_refl _) (.bool false) (.slice a9 n9 k9) (.int .i64 (pos + t))
  have T5 := HA9.out.tri8 HC9.out (by decide) (.bool false) (.slice a9 n9 k9) (.int .i64 (pos + t))
  obtain ⟨p0, p1, p2⟩ := tri8 T3
  have HE := hide (And.intro T5 T4)
  clear T3 T4 T5
  generalize ((t9.setCell ⟨w.heap.size, 0, none⟩ (.bool false)).setCell ⟨w.heap.size, 1, none⟩ (.slice a9 n9 k9)).setCell ⟨w.heap.size, 2, none⟩ (.int .i64 (pos + t)) = w9 at *
  refine bodyPost_ret (v := .tuple #[.agg #[.bool false, .slice a9 n9 k9, .int .i64 (pos + t)], .int .i64 0]) (by simp [results, Tryz.results12, go_sem, p0, p1, p2]) rfl ?_
  exact ⟨⟨_, _, _, _, rfl, HE.out.1, HV9.out.1, HV9.out.2⟩, HE.out.2⟩

set_option maxRecDepth 20000 in
set_option maxHeartbeats 2000000 in
theorem nrooted_some (va : Value) (X : List Nat) (s : Nat) (w : World) (hA : Arg w va X) (hT : Tab w) (hx : X.length ≤ 17592186044000) (hs : IsRoot2 (val X) s) (hb : blen s ≤ 67108864) (hr : blen (val X - s * s) ≤ 67108864) (h0 : val X - s * s ≠ 0) :
    Calls Tryz.prog 30 #[va] w fun e w' => (∃ a n k rs, e = .returned (.tuple #[.slice a n k, .bool false, .int .i64 (cmpN (val X - s * s) s)]) ∧ Ans w' w.heap.size (.slice a n k) rs ∧ n = rs.length ∧ val rs = s ∧ tr rs = rs) ∧ Below w.heap.size w w' := by
  have C := rsqrt_any va X s w hA hT hx hs
  obtain ⟨a0, c0, rfl, _, _, _⟩ := hA.form
  generalize val X - s * s = y at *
  have HL := hide (And.intro hb (And.intro hr h0))
  clear hA hT hx hs hb hr h0
  go_enter Tryz.func30, Tryz.ntmps30
  go_wp2_with fail
  refine C.mono ?_
  rintro e t1 ⟨h, g1⟩
  rcases h with ⟨_, _, v1, v2, rfl, n1, n2⟩ | ⟨h, _⟩
  · have CC := ncmp n2 n1 (by have := HL.out; omega) (by have := HL.out; omega)
    obtain ⟨r1, ha1, hv1, ht1⟩ := n1
    obtain ⟨r2, ha2, hv2, ht2⟩ := n2
    have hl2 : r2.length ≤ 1048576 := few_ofW ht2 hv2 HL.out.2.1
    have HZ := nisZero_any _ r2 t1 (ha2.arg (by omega))
    rw [hv2, decide_eq_false HL.out.2.2] at HZ
    obtain ⟨b1, k1, rfl⟩ := ha1.shape
    obtain ⟨b2, k2, rfl⟩ := ha2.shape
    have HE := hide (And.intro ha1 (And.intro hv1 (And.intro ht1 g1)))
    clear ha1 ha2 hv1 hv2 ht1 ht2 g1 C hl2
    go_wp2_with fail
    refine HZ.mono ?_
    rintro e wn ⟨rfl, hw⟩; rw [hw]; clear hw wn HZ
    go_wp2_with fail
    refine CC.mono ?_
    rintro e t2 ⟨rfl, hs2⟩
    have HS := hide hs2
    clear hs2 CC
    go_wp2
    refine bodyPost_ret (v := .tuple #[.slice b1 r1.length k1, .bool false, .int .i64 (cmpN y s)]) (by simp [results, Tryz.results30, go_sem]) rfl ?_
    exact ⟨⟨_, _, _, r1, rfl, HE.out.1.below (HS.out.below _), rfl, HE.out.2.1, HE.out.2.2.1⟩, bl_trans8 HE.out.2.2.2 (HS.out.below _)⟩
  · exact absurd h (by have := HL.out; omega)

end Go.Proofs.YtppblbhkghjphaaGreatDoor

/- Package rounded: the work of a root's steps, where its square is shifted up and something is left. -/
namespace Go.Proofs.YtppblbhkghjphaaGreatDoor
open Go.RowKit
open Lm
attribute [local go_sem ↓] Go.wp_at_zero Go.wp_at_succ

set_option maxRecDepth 20000 in
set_option maxHeartbeats 4000000 in
theorem nwork_rt (gf gu : Nat) (a1 : Option Addr) (c1 : Nat) (X : List Nat) (ex : Int) (up s : Nat) (w : World) (hfb : w.heap[gf]? = some (.cells #[.slice a1 X.length c1, .int .i64 ex] 51)) (hu : w.heap[gu]? = some (.cells #[.int .i64 (up : Int)] 3)) (hA : Arg w (.slice a1 X.length c1) X) (hT : Tab w) (h0 : val X ≠ 0) (hup : 0 < up) (hsz : blen (val X) + up ≤ 1125899906800000) (hs : IsRoot2 (val X * 2 ^ up) s) (hb : blen s ≤ 67108864) (hr : blen (val X * 2 ^ up - s * s) ≤ 67108864) (hn : val X * 2 ^ up - s * s ≠ 0) (hc : cmpN (val X * 2 ^ up - s * s) s ≠ 0) :
    Calls Tryz.prog 29 #[.pointer (some ⟨gf, 0, none⟩), .pointer (some ⟨gu, 0, none⟩)] w (Cnt w w.heap.size s (2 + cmpN (val X * 2 ^ up - s * s) s)) := by
  obtain ⟨w0, hw0, hb0, k0⟩ := enter1 w (.cells #[.slice none 0 0, .int .i64 0] 60)
  have hfl : fl (val X) (up : Int) = val X * 2 ^ up := by unfold fl; rw [if_pos (by omega), Int.toNat_natCast]
  have SH := nshifted_some _ X (up : Int) w0 (hA.below hb0) (by omega) (by omega) (by omega) h0 (by omega)
  rw [hfl] at SH
  have hbx : blen (val X * 2 ^ up) ≤ 17592186044000 * 64 := by
    have h := fl_blen (val X) (up : Int) h0
    rw [hfl] at h
    omega
  have RT := hide (fun (W : World) (a5 : Option Addr) (n5 k5 : Nat) (r5 : List Nat) (hr5 : Ans W w0.heap.size (.slice a5 n5 k5) r5) (hv5 : val r5 = val X * 2 ^ up) (ht5 : tr r5 = r5) (hg : Below w0.heap.size w0 W) => show Calls Tryz.prog 30 #[.slice a5 n5 k5] W (fun e w' => (∃ a n k rs, e = .returned (.tuple #[.slice a n k, .bool false, .int .i64 (cmpN (val X * 2 ^ up - s * s) s)]) ∧ Ans w' W.heap.size (.slice a n k) rs ∧ n = rs.length ∧ val rs = s ∧ tr rs = rs) ∧ Below W.heap.size W w') by
    have hl5 : r5.length ≤ 17592186044000 := few_ofW ht5 hv5 hbx
    have h := nrooted_some (.slice a5 n5 k5) r5 s W (hr5.arg (by omega)) ((hT.below hb0).below hg) hl5 (by rw [hv5]; exact hs) hb (by rw [hv5]; exact hr) (by rw [hv5]; exact hn)
    rw [hv5] at h
    exact h)
  have hcr := cmpN_range (val X * 2 ^ up - s * s) s
  generalize cmpN (val X * 2 ^ up - s * s) s = kc at *
  have hk1 : -1 ≤ kc ∧ kc ≤ 1 := by omega
  have BS := fun (W : World) => nbeside_any kc W hk1.1 hk1.2
  have dk : decide (kc = 0) = false := decide_eq_false hc
  obtain ⟨lf, hlf⟩ : ∃ lf, 2 + kc = lf := ⟨_, rfl⟩
  rw [hlf] at BS ⊢
  have HK0 := hide k0
  have HB := hide hb0
  have HFU := hide (And.intro (block_upW hb0 hfb) (block_upW hb0 hu))
  obtain ⟨x0, x1⟩ := duo HFU.out.1
  have x2 := one9 HFU.out.2
  clear k0 hb0 hfb hu hA hT h0 hsz hs hb hr hn hfl hbx hcr hk1 hlf
  go_enter Tryz.func29, Tryz.ntmps29
  go_wp2_with fail
  refine SH.mono ?_
  rintro e t1 ⟨⟨a5, n5, k5, r5, rfl, hans5, hn5, hv5, ht5⟩, g1⟩
  have C := RT.out t1 a5 n5 k5 r5 hans5 hv5 ht5 g1
  have HG1 := hide g1
  clear hans5 hn5 hv5 ht5 g1 RT SH
  go_wp2_with fail
  refine C.mono ?_
  rintro e t2 ⟨⟨a6, n6, k6, r6, rfl, hans6, hn6, hv6, ht6⟩, g2⟩
  have HL6 := hide hn6
  have HVT := hide (And.intro hv6 ht6)
  have HAN := hide (hans6.base (Nat.le_trans HB.out.size HG1.out.size))
  have G2 := bl_trans8 HG1.out g2
  have HG := hide (bl_trans8 HB.out G2)
  have HC2 := hide (block_upW G2 HK0.out)
  clear x0 x1 x2
  obtain ⟨x0, x1⟩ := duo (block_upW G2 HFU.out.1)
  have x2 := one9 (block_upW G2 HFU.out.2)
  clear hans6 hn6 hv6 ht6 g2 G2 C
  go_wp2_with fail
  go_quiet (fail)
  obtain ⟨wq, hwq⟩ : ∃ wq, wq = t2.drewN nq := ⟨_, rfl⟩
  have hbq : Below t2.heap.size t2 wq := by rw [hwq]; exact ((Same.refl t2).drewN nq).below _
  rw [← hwq]
  replace HG := hide (bl_trans8 HG.out hbq)
  replace HC2 := hide (block_upW hbq HC2.out)
  replace HAN := hide (HAN.out.below hbq)
  have C := BS wq
  have cf := duof HC2.out
  obtain ⟨cc0, cc1⟩ := duo HC2.out
  clear hwq hbq x0 x1 x2 BS
  go_wp2_with fail
  refine C.mono ?_
  rintro e wn ⟨rfl, hw⟩; rw [hw]; clear hw wn C
  go_wp2
  have T3 := duo_all (a' := .slice a6 n6 k6) (b' := .int .i64 lf) HC2.out
  have T4 := below_duo (u0 := .slice a6 n6 k6) (u1 := .int .i64 lf) HG.out (Nat.le_refl _)
  have T5 := (HAN.out.off8 (o := 0) (u := .slice a6 n6 k6) HC2.out (by decide)).off8 (o := 1) (u := .int .i64 lf) (box_modify HC2.out _) (by decide)
  obtain ⟨p0, p1⟩ := duo T3
  have HE := hide (And.intro T5 T4)
  clear T3 T4 T5
  generalize (wq.setCell ⟨w.heap.size, 0, none⟩ (.slice a6 n6 k6)).setCell ⟨w.heap.size, 1, none⟩ (.int .i64 lf) = w5 at *
  refine bodyPost_ret (v := .tuple #[.agg #[.slice a6 n6 k6, .int .i64 lf], .int .i64 0]) (by simp [results, Tryz.results29, go_sem, p0, p1]) rfl ?_
  exact ⟨⟨_, _, _, r6, rfl, HE.out.1, HL6.out, HVT.out.1, HVT.out.2⟩, HE.out.2⟩

end Go.Proofs.YtppblbhkghjphaaGreatDoor

/- Package rounded: the document's example of a root: within over a root's work, its steps. -/
namespace Go.Proofs.YtppblbhkghjphaaGreatDoor
open Go.RowKit
open Lm
attribute [local go_sem ↓] Go.wp_at_zero Go.wp_at_succ

set_option maxRecDepth 20000 in
set_option maxHeartbeats 2000000 in
theorem nwithin_rt (lo hi : Int) (pu pf : Value) (Q : Nat) (l : Int) (w : World) (hlo : lo < 67108864) (hhi : -1 ≤ hi) (HC : ∀ W, Below w.heap.size w W → Calls Tryz.prog 29 #[pu, pf] W (Cnt W W.heap.size Q l)) :
    Calls Tryz.prog 23 #[.int .i64 lo, .int .i64 hi, .func (Fn.func 29) #[] #[pu, pf]] w (Cnt w w.heap.size Q l) := by
  obtain ⟨w0, hw0, hb0, k0⟩ := enter1 w (.cells #[.slice none 0 0, .int .i64 0] 60)
  have H1 := HC w0 hb0
  have HK0 := hide k0
  have HB := hide hb0
  have d1 : decide ((67108864 : Int) ≤ lo) = false := decide_eq_false (by omega)
  have d2 : decide (hi < -1) = false := decide_eq_false (by omega)
  have d3 : ¬ (67108864 : Int) ≤ lo := by omega
  have d4 : ¬ hi < -1 := by omega
  clear HC k0 hb0
  go_enter Tryz.func23, Tryz.ntmps23
  go_wp2_with fail
  refine H1.mono ?_
  rintro e t1 ⟨⟨a6, n6, k6, r6, rfl, hans6, hn6, hv6, ht6⟩, g1⟩
  have HL6 := hide hn6
  have HVT := hide (And.intro hv6 ht6)
  have HAN := hide (hans6.base HB.out.size)
  have HG := hide (bl_trans8 HB.out g1)
  have HC2 := hide (block_upW g1 HK0.out)
  have cf := duof HC2.out
  obtain ⟨cc0, cc1⟩ := duo HC2.out
  clear hn6 hv6 ht6 hans6 g1 H1
  go_wp2
  have T3 := duo_all (a' := .slice a6 n6 k6) (b' := .int .i64 l) HC2.out
  have T4 := below_duo (u0 := .slice a6 n6 k6) (u1 := .int .i64 l) HG.out (Nat.le_refl _)
  have T5 := (HAN.out.off8 (o := 0) (u := .slice a6 n6 k6) HC2.out (by decide)).off8 (o := 1) (u := .int .i64 l) (box_modify HC2.out _) (by decide)
  obtain ⟨p0, p1⟩ := duo T3
  have HE := hide (And.intro T5 T4)
  clear T3 T4 T5
  generalize (t1.setCell ⟨w.heap.size, 0, none⟩ (.slice a6 n6 k6)).setCell ⟨w.heap.size, 1, none⟩ (.int .i64 l) = w5 at *
  refine bodyPost_ret (v := .tuple #[.agg #[.slice a6 n6 k6, .int .i64 l], .int .i64 0]) (by simp [results, Tryz.results23, go_sem, p0, p1]) rfl ?_
  exact ⟨⟨_, _, _, r6, rfl, HE.out.1, HL6.out, HVT.out.1, HVT.out.2⟩, HE.out.2⟩

theorem bl2 : blen (val [2]) = 2 := by decide

set_option maxRecDepth 20000 in
set_option maxHeartbeats 4000000 in
theorem steps2 (a1 : Option Addr) (c1 : Nat) (w : World) (hA : Arg w (.slice a1 1 c1) [2]) (hT : Tab w) :
    Calls Tryz.prog 15 #[.agg #[.slice a1 1 c1, .int .i64 0], .int .i64 (-4)] w (Cnt w w.heap.size 22 3) := by
  obtain ⟨w0, hw0, hb0, k0, k1⟩ := enter2 w (.cells #[.slice a1 1 c1, .int .i64 0] 51) (.cells #[.slice none 0 0, .int .i64 0] 60)
  obtain ⟨x0, x1⟩ := duo k0
  have HZ := nisZero_any _ [2] w0 (hA.below hb0)
  rw [show decide (val [2] = 0) = false by decide] at HZ
  obtain ⟨w1, hw1, hb1, k2⟩ := enter1 w0 (.cells #[.int .i64 8] 3)
  have g1 := bl_trans8 hb0 hb1
  have LX := fun nq => length_val _ [2] (w1.drewN nq) ((hA.below g1).below (((Same.refl w1).drewN nq).below _))
  rw [bl2] at LX
  have WK := hide (fun (W : World) (hg : Below w1.heap.size w1 W) => show Calls Tryz.prog 29 #[.pointer (some ⟨w.heap.size, 0, none⟩), .pointer (some ⟨w0.heap.size, 0, none⟩)] W (Cnt W W.heap.size 22 3) from
    nwork_rt w.heap.size w0.heap.size a1 c1 [2] 0 8 22 W (block_upW (bl_trans8 hb1 hg) k0) (block_upW hg k2) ((hA.below g1).below hg) ((hT.below g1).below hg) (by decide) (by decide) (by rw [bl2]; decide) ⟨by decide, by decide⟩ (by decide) (by decide) (by decide) (by decide))
  obtain ⟨y0, y1⟩ := duo (block_upW hb1 k0)
  have z0 := one9 k2
  have HK1 := hide (block_upW hb1 k1)
  have HB := hide g1
  clear hA hT k0 k1 k2 hb0 hb1 g1
  go_enter Tryz.func15, Tryz.ntmps15
  go_wp2_with fail
  refine HZ.mono ?_
  rintro e wn9 ⟨rfl, hw⟩; rw [hw]; clear hw wn9 HZ
  go_wp2_with fail
  go_quiet (first | (go_at_call_of 19 a1; exact (LX _).mono (fun _ _ h => ⟨h.1, _, h.2⟩)))
  obtain ⟨wq, hwq⟩ : ∃ wq, wq = w1.drewN nq := ⟨_, rfl⟩
  have hbq : Below w1.heap.size w1 wq := by rw [hwq]; exact ((Same.refl w1).drewN nq).below _
  rw [← hwq]
  have HWI := nwithin_rt 4 5 (.pointer (some ⟨w.heap.size, 0, none⟩)) (.pointer (some ⟨w0.heap.size, 0, none⟩)) 22 3 wq (by decide) (by decide) (fun W hg => WK.out W (bl_trans8 hbq hg))
  replace HK1 := hide (block_upW hbq HK1.out)
  replace HB := hide (bl_trans8 HB.out hbq)
  clear hwq hbq LX WK y0 y1 z0 x0 x1 hw0 hw1
  go_wp2_with fail
  refine HWI.mono ?_
  rintro e t1 ⟨⟨a6, n6, k6, r6, rfl, hans6, hn6, hv6, ht6⟩, g1⟩
  have HL6 := hide hn6
  have HVT := hide (And.intro hv6 ht6)
  have HAN := hide (hans6.base HB.out.size)
  have HG := hide (bl_trans8 HB.out g1)
  have HC2 := hide (block_upW g1 HK1.out)
  have cf := duof HC2.out
  obtain ⟨cc0, cc1⟩ := duo HC2.out
  clear hn6 hv6 ht6 hans6 g1 HWI
  go_wp2
  have T3 := duo_all (a' := .slice a6 n6 k6) (b' := .int .i64 3) HC2.out
  have T4 := below_duo (u0 := .slice a6 n6 k6) (u1 := .int .i64 3) HG.out (Nat.le_succ _)
  have T5 := (HAN.out.off8 (o := 0) (u := .slice a6 n6 k6) HC2.out (by decide)).off8 (o := 1) (u := .int .i64 3) (box_modify HC2.out _) (by decide)
  obtain ⟨p0, p1⟩ := duo T3
  have HE := hide (And.intro T5 T4)
  clear T3 T4 T5
  generalize (t1.setCell ⟨w.heap.size + 1, 0, none⟩ (.slice a6 n6 k6)).setCell ⟨w.heap.size + 1, 1, none⟩ (.int .i64 3) = w5 at *
  refine bodyPost_ret (v := .tuple #[.agg #[.slice a6 n6 k6, .int .i64 3], .int .i64 0]) (by simp [results, Tryz.results15, go_sem, p0, p1]) rfl ?_
  exact ⟨⟨_, _, _, r6, rfl, HE.out.1, HL6.out, HVT.out.1, HVT.out.2⟩, HE.out.2⟩

end Go.Proofs.YtppblbhkghjphaaGreatDoor

/- Package rounded: the document's example of a root. -/
namespace Go.Proofs.YtppblbhkghjphaaGreatDoor
open Go.RowKit
open Lm
attribute [local go_sem ↓] Go.wp_at_zero Go.wp_at_succ

set_option maxRecDepth 20000 in
set_option maxHeartbeats 4000000 in
theorem nsqrt2 (a1 : Option Addr) (c1 : Nat) (w : World) (hA : Arg w (.slice a1 1 c1) [2]) (hT : Tab w) :
    Calls Tryz.prog 6 #[.agg #[.bool false, .slice a1 1 c1, .int .i64 0], .int .i64 (-4), .int .i64 0] w (RAns w false 11 (-3)) := by
  obtain ⟨w0, hw0, hb0, q0, q9⟩ := enter2 w (.cells #[.bool false, .slice a1 1 c1, .int .i64 0] 28) (.cells #[.bool false, .slice none 0 0, .int .i64 0] 28)
  obtain ⟨w1, hw1, hb1, qf⟩ := enter1 w0 (.cells #[.bool false, .slice a1 1 c1, .int .i64 0] 28)
  have C0 := nfault_ok (-4) 0 w0 (by decide) (by decide) (by decide)
  have C1 := nmeant1 w0.heap.size false a1 1 c1 0 w1 qf (by decide)
  have s1 := bl_trans8 hb0 hb1
  have HU1 := hide s1
  have HQ0 := hide (block_upW hb1 q0)
  have HQ9 : Hid (w1.heap[w.heap.size + 1]? = some (.cells #[.bool false, .slice none 0 0, .int .i64 0] 28)) := hide (block_upW hb1 q9)
  have HAB := hide (And.intro hA hT)
  obtain ⟨y0, y1, y2⟩ := tri8 q0
  clear q0 q9 qf hb0 hb1 s1 hA hT
  go_enter Tryz.func6, Tryz.ntmps6
  go_wp2_with fail
  refine C0.mono ?_
  rintro e wn ⟨rfl, hw⟩; rw [hw]; clear hw wn C0
  go_wp2_with fail
  refine C1.mono ?_
  rintro e t2 ⟨rfl, g2⟩
  have HG2 := hide (bl_trans8 HU1.out g2)
  have HP0 := hide (block_upW g2 HQ0.out)
  have HP9 := hide (block_upW g2 HQ9.out)
  clear C1 g2 y0 y1 y2 hw0 hw1 HQ0 HQ9
  obtain ⟨y0, y1, y2⟩ := tri8 HP0.out
  obtain ⟨w3, hw3, hb3, q3⟩ := enter1 t2 (.cells #[.slice a1 1 c1, .int .i64 0] 51)
  have f3 := duof q3
  have e3 := (duo q3).2
  obtain ⟨w4, hw4⟩ : ∃ w4, w3.setCell ⟨t2.heap.size, 1, none⟩ (.int .i64 0) = w4 := ⟨_, rfl⟩
  have q4 : w4.heap[t2.heap.size]? = some (.cells #[.slice a1 1 c1, .int .i64 0] 51) := by rw [← hw4]; exact box_modify q3 _
  have hb4 : Below t2.heap.size t2 w4 := by rw [← hw4]; exact hb3.setCell (p := ⟨t2.heap.size, 1, none⟩) (Nat.le_refl _) _
  have HG4 := hide (bl_trans8 HG2.out hb4)
  have HP94 := hide (block_upW hb4 HP9.out)
  have HF4 := hide q4
  have HLT : Hid (w.heap.size + 1 < t2.heap.size) := hide (lt_of_block HP9.out)
  clear hb3 hb4 q3 q4
  go_upto_region 9 with fail
  clear y0 y1 y2 e3 f3 hw3 hw4 HP0 HP9 HG2 HU1
  have gd0 : Below w.heap.size w w4.drew := HG4.out.drew
  have g0 : Below w4.drew.heap.size w4.drew w4.drew := Below.refl _ _
  have KH := hide (fun (W : World) (h3 : W.heap[t2.heap.size]? = some (.cells #[.slice a1 1 c1, .int .i64 0] 51)) => show W.cell? ⟨t2.heap.size, 0, none⟩ = some (.slice a1 1 c1) ∧ W.cell? ⟨t2.heap.size, 1, none⟩ = some (.int .i64 0) from duo h3)
  have KS := hide (fun (W : World) (hg : Below w4.drew.heap.size w4.drew W) => KH.out W (block_upW hg HF4.out))
  have KT := hide (fun (W : World) (u0 u1 u2 : Value) (hg : Below w4.drew.heap.size w4.drew W) => KH.out (((W.setCell ⟨w.heap.size + 1, 0, none⟩ u0).setCell ⟨w.heap.size + 1, 1, none⟩ u1).setCell ⟨w.heap.size + 1, 2, none⟩ u2) ((tri_other (by have := HLT.out; omega) u0 u1 u2).trans (block_upW hg HF4.out)))
  have U1 := nawayBy_any 0 w4.drew
  have U2 := hide (fun (W : World) (gm : Nat) (hg : Below w4.drew.heap.size w4.drew W) (hm : W.heap[gm]? = some (.cells #[.int .i64 0] 33)) => show Calls Tryz.prog 12 #[.bool false, .func (Fn.func 15) #[.agg #[.slice a1 1 c1, .int .i64 0]] #[], .int .i64 (-4), .func (Fn.func 27) #[] #[.pointer (some ⟨gm, 0, none⟩)]] W (RAns W false 11 (-3)) from
    nansDown_rt (.slice a1 1 c1) 0 (-4) gm 22 3 1 W (HAB.out.2.below (bl_trans8 gd0 hg)) hm (fun W2 h2 => steps2 a1 c1 W2 ((HAB.out.1.below (bl_trans8 gd0 hg)).below h2) ((HAB.out.2.below (bl_trans8 gd0 hg)).below h2)) (by decide) (by decide) ⟨by decide, by decide⟩ (by decide))
  have H9 := hide (show w4.drew.heap[w.heap.size + 1]? = some (.cells #[.bool false, .slice none 0 0, .int .i64 0] 28) from HP94.out)
  obtain ⟨y0, y1⟩ := KS.out _ g0
  go_region_held3 (fun W => W.cell? ⟨t2.heap.size, 0, none⟩ = some (.slice a1 1 c1) ∧ W.cell? ⟨t2.heap.size, 1, none⟩ = some (.int .i64 0)) (first | with_reducible exact KS.out _ g2 | with_reducible exact KS.out _ g1 | with_reducible exact KS.out _ g0 | with_reducible exact KT.out _ _ _ _ g2) (first
    | (go_at_call 14; refine U1.mono ?_; rintro e' t5 ⟨rfl, hm5, g1⟩)
    | (go_at_call 12; refine (U2.out t5 _ g1 hm5).mono ?_; rintro e' t6 ⟨⟨a6, n6, k6, r6, rfl, ha6, hv6, ht6⟩, hb6⟩; have g2 := bl_trans8 g1 hb6; have hz := block_upW g2 H9.out; have hf := tri8f hz; obtain ⟨m0, m1, m2⟩ := tri8 hz))
  all_goals
    have T3 := tri8_all hz (.bool false) (.slice a6 n6 k6) (.int .i64 (-3))
    have T4 := below_tri8 (bl_trans8 gd0 g2) (g := w.heap.size + 1) (by omega) (.bool false) (.slice a6 n6 k6) (.int .i64 (-3))
    have T5 := (((ha6.base ((bl_trans8 gd0 g1).size)).off8 (o := 0) (u := .bool false) hz (by decide)).off8 (o := 1) (u := .slice a6 n6 k6) (box_modify hz _) (by decide)).off8 (o := 2) (u := .int .i64 (-3)) (box_modify (box_modify hz _) _) (by decide)
    obtain ⟨p0, p1, p2⟩ := tri8 T3
    have HE := hide (And.intro T5 T4)
    have HV := hide (And.intro hv6 ht6)
    clear T3 T4 T5 hz hf m0 m1 m2 y0 y1 KS KT KH U1 U2 H9 g0 g1 g2 hb6 ha6 hv6 ht6 hm5 gd0
    generalize ((t6.setCell ⟨w.heap.size + 1, 0, none⟩ (.bool false)).setCell ⟨w.heap.size + 1, 1, none⟩ (.slice a6 n6 k6)).setCell ⟨w.heap.size + 1, 2, none⟩ (.int .i64 (-3)) = w7 at *
    go_wp2
    refine bodyPost_ret (v := .tuple #[.agg #[.bool false, .slice a6 n6 k6, .int .i64 (-3)], .int .i64 0]) (by simp [results, Tryz.results6, go_sem, p0, p1, p2]) rfl ?_
    exact ⟨⟨_, _, _, r6, rfl, HE.out.1, HV.out.1, HV.out.2⟩, HE.out.2⟩

end Go.Proofs.YtppblbhkghjphaaGreatDoor

/- surdlaw09: same, of an answer that is the number; lives. -/
namespace Go.Proofs.YtppblbhkghjphaaGreatDoor
open Go.RowKit
open Lm
attribute [local go_sem ↓] Go.wp_at_zero Go.wp_at_succ

set_option maxRecDepth 20000 in
set_option maxHeartbeats 2000000 in
theorem nsame_ok (b : Bool) (a : Option Addr) (n k : Nat) (ex : Int) (a2 : Option Addr) (n2 k2 : Nat) (rs : List Nat) (x : Nat) (w : World) (hA : Arg w (.slice a n k) rs) (ht : tr rs = rs) (hv : val rs = x) (hN : Num w (.slice a2 n2 k2) x) (hf : blen x ≤ 1125899906842624) :
    Calls Tryz.prog 7 #[.agg #[.bool b, .slice a n k, .int .i64 ex], .int .i64 0, .agg #[.bool b, .slice a2 n2 k2, .int .i64 ex], .int .i64 0] w fun e w' => e = .returned (.bool true) ∧ Below w.heap.size w w' := by
  obtain ⟨w0, hw0, hb0, q0, q1⟩ := enter2 w (.cells #[.bool b, .slice a n k, .int .i64 ex] 28) (.cells #[.bool b, .slice a2 n2 k2, .int .i64 ex] 39)
  have C := is_true _ _ x rs w0 (hN.below hb0) (hA.below hb0) ht hv hf
  obtain ⟨y0, y1, y2⟩ := tri8 q0
  obtain ⟨y3, y4, y5⟩ := tri8 q1
  have HB := hide hb0
  clear hA ht hv hN hf hb0 q0 q1
  cases b
  all_goals
    go_enter Tryz.func7, Tryz.ntmps7
    go_wp2_with fail
    refine C.mono ?_
    rintro e t1 ⟨rfl, g1⟩
    have HG := hide (bl_trans8 HB.out g1)
    clear g1 C
    go_wp2
    go_ret
    exact ⟨rfl, HG.out⟩

end Go.Proofs.YtppblbhkghjphaaGreatDoor

/- surdlaw09: lives. -/
namespace Go.Proofs.YtppblbhkghjphaaGreatDoor
open Go.RowKit
open Lm
attribute [local go_sem ↓] Go.wp_at_zero Go.wp_at_succ

theorem nint_any (c : Nat) (w : World) (hc : c < 9223372036854775808) : Calls Tryz.prog 8 #[.int .i64 c] w fun e w' => (∃ a n k, e = .returned (.slice a n k) ∧ Num w' (.slice a n k) c) ∧ Below w.heap.size w w' := by
  refine (rint_all c w hc).mono fun e w' h => ?_
  obtain ⟨⟨v, rfl, hn⟩, hb⟩ := h
  obtain ⟨ds, hd, _⟩ := id hn
  obtain ⟨a, k, rfl, _⟩ := hd.form
  exact ⟨⟨_, _, _, rfl, hn⟩, hb⟩

/-- What Quo or Sqrt answers, the sign as a letter. -/
def RAnsL (w : World) (x : Nat) (ex : Int) (e : Ending) (w' : World) : Prop :=
  (∃ b a n k rs, b = false ∧ e = .returned (.tuple #[.agg #[.bool b, .slice a n k, .int .i64 ex], .int .i64 0]) ∧ Ans w' w.heap.size (.slice a n k) rs ∧ val rs = x ∧ tr rs = rs) ∧ Below w.heap.size w w'

theorem RAns.letter {w : World} {x : Nat} {ex : Int} {e : Ending} {w' : World} (h : RAns w false x ex e w') : RAnsL w x ex e w' := by
  obtain ⟨⟨a, n, k, rs, h1, h2⟩, hb⟩ := h
  exact ⟨⟨false, a, n, k, rs, rfl, h1, h2⟩, hb⟩

set_option maxRecDepth 20000 in
set_option maxHeartbeats 4000000 in
theorem lives_any (w : World) (hT : Tab w) : Calls Tryz.prog 4 #[] w fun e w' => e = .returned (.bool true) ∧ Below w.heap.size w w' := by
  obtain ⟨wa, hwa, hba, qa⟩ := enter1 w (.cells #[.int .u64 1] 32)
  obtain ⟨wb, hwb, hbb, qb⟩ := enter1 wa (.cells #[.int .u64 3] 32)
  have A1 : Arg wa (.slice (some ⟨w.heap.size, 0, none⟩) 1 1) [1] := by rw [← hwa]; exact Arg.lits w [1] #[.int .u64 1] 1 rfl rfl (by intro z hz; simp at hz; omega) (by simp)
  have A3 : Arg wb (.slice (some ⟨wa.heap.size, 0, none⟩) 1 1) [3] := by rw [← hwb]; exact Arg.lits wa [3] #[.int .u64 3] 1 rfl rfl (by intro z hz; simp at hz; omega) (by simp)
  have gb := bl_trans8 hba hbb
  have C := (nquo13 _ 1 _ 1 wb (A1.below hbb) A3 (hT.below gb)).mono fun _ _ h => h.letter
  have HT := hide (And.intro hT gb)
  clear hba qa hbb qb A1 A3 gb hT
  go_enter Tryz.func4, Tryz.ntmps4
  go_wp2_with fail
  refine C.mono ?_
  rintro e t1 ⟨⟨b1, a1, n1, k1, r1, hb1, rfl, ha1, hv1, ht1⟩, g1⟩
  obtain ⟨w2, hw2, hb2, q2⟩ := enter1 t1 (.cells #[.bool b1, .slice a1 n1 k1, .int .i64 (-3)] 28)
  obtain ⟨w3, hw3, hb3, q3⟩ := enter1 w2 (.cells #[.int .u64 2] 32)
  have A2 : Arg w3 (.slice (some ⟨w2.heap.size, 0, none⟩) 1 1) [2] := by rw [← hw3]; exact Arg.lits w2 [2] #[.int .u64 2] 1 rfl rfl (by intro z hz; simp at hz; omega) (by simp)
  have G3 := bl_trans8 (bl_trans8 (bl_trans8 HT.out.2 g1) hb2) hb3
  have C := (nsqrt2 _ 1 w3 A2 (HT.out.1.below G3)).mono fun _ _ h => h.letter
  have H1 := hide (And.intro hb1 (And.intro ((ha1.below hb2).below hb3) (And.intro hv1 (And.intro ht1 (block_upW hb3 q2)))))
  have HG3 := hide G3
  clear g1 hb2 q2 hb3 q3 A2 G3 ha1 hv1 ht1 hb1 hwa hwb
  go_wp2_with fail
  refine C.mono ?_
  rintro e t4 ⟨⟨b4, a4, n4, k4, r4, hb4, rfl, ha4, hv4, ht4⟩, g4⟩
  obtain ⟨w5, hw5, hb5, q5⟩ := enter1 t4 (.cells #[.bool b4, .slice a4 n4 k4, .int .i64 (-3)] 28)
  have s5 := bl_trans8 g4 hb5
  have HGD : Hid (Below w.heap.size w w5.drew) := hide (bl_trans8 HG3.out s5).drew
  have H4 := hide (And.intro hb4 (And.intro (ha4.below hb5) (And.intro hv4 (And.intro ht4 q5))))
  have H1' := hide (And.intro (H1.out.2.1.below s5) (block_upW s5 H1.out.2.2.2.2))
  have g0 : Below w5.drew.heap.size w5.drew w5.drew := Below.refl _ _
  have KS := hide (fun (W : World) (hg : Below w5.drew.heap.size w5.drew W) => show (W.cell? ⟨t1.heap.size, 0, none⟩ = some (.bool b1) ∧ W.cell? ⟨t1.heap.size, 1, none⟩ = some (.slice a1 n1 k1) ∧ W.cell? ⟨t1.heap.size, 2, none⟩ = some (.int .i64 (-3))) ∧ W.cell? ⟨t4.heap.size, 0, none⟩ = some (.bool b4) ∧ W.cell? ⟨t4.heap.size, 1, none⟩ = some (.slice a4 n4 k4) ∧ W.cell? ⟨t4.heap.size, 2, none⟩ = some (.int .i64 (-3)) from
    ⟨tri8 (block_upW hg H1'.out.2), tri8 (block_upW hg H4.out.2.2.2.2)⟩)
  have I3 := hide (fun (W : World) => show Calls Tryz.prog 8 #[.int .i64 3] W _ from nint_any 3 W (by decide))
  have I11 := hide (fun (W : World) => show Calls Tryz.prog 8 #[.int .i64 11] W _ from nint_any 11 W (by decide))
  have S1 := hide (fun (W : World) (a n k) (hg : Below w5.drew.heap.size w5.drew W) (hN : Num W (.slice a n k) 3) => show Calls Tryz.prog 7 #[.agg #[.bool b1, .slice a1 n1 k1, .int .i64 (-3)], .int .i64 0, .agg #[.bool false, .slice a n k, .int .i64 (-3)], .int .i64 0] W (fun e w' => e = .returned (.bool true) ∧ Below W.heap.size W w') from by
    have hl : r1.length ≤ 1048576 := few_ofW H1.out.2.2.2.1 H1.out.2.2.1 (by decide)
    have h := nsame_ok b1 a1 n1 k1 (-3) a n k r1 3 W (((H1'.out.1.arg (by omega)).below ((Below.refl _ _).drew)).below hg) H1.out.2.2.2.1 H1.out.2.2.1 hN (by decide)
    rw [H1.out.1] at h ⊢
    exact h)
  have S4 := hide (fun (W : World) (a n k) (hg : Below w5.drew.heap.size w5.drew W) (hN : Num W (.slice a n k) 11) => show Calls Tryz.prog 7 #[.agg #[.bool b4, .slice a4 n4 k4, .int .i64 (-3)], .int .i64 0, .agg #[.bool false, .slice a n k, .int .i64 (-3)], .int .i64 0] W (fun e w' => e = .returned (.bool true) ∧ Below W.heap.size W w') from by
    have hl : r4.length ≤ 1048576 := few_ofW H4.out.2.2.2.1 H4.out.2.2.1 (by decide)
    have h := nsame_ok b4 a4 n4 k4 (-3) a n k r4 11 W (((H4.out.2.1.arg (by omega)).below ((Below.refl _ _).drew)).below hg) H4.out.2.2.2.1 H4.out.2.2.1 hN (by decide)
    rw [H4.out.1] at h ⊢
    exact h)
  obtain ⟨⟨y0, y1, y2⟩, y3, y4, y5⟩ := KS.out _ g0
  clear g4 hb5 q5 s5 ha4 hv4 ht4 hb4
  go_upto_region 3 with fail
  go_region_held3 (fun W => (W.cell? ⟨t1.heap.size, 0, none⟩ = some (.bool b1) ∧ W.cell? ⟨t1.heap.size, 1, none⟩ = some (.slice a1 n1 k1) ∧ W.cell? ⟨t1.heap.size, 2, none⟩ = some (.int .i64 (-3))) ∧ W.cell? ⟨t4.heap.size, 0, none⟩ = some (.bool b4) ∧ W.cell? ⟨t4.heap.size, 1, none⟩ = some (.slice a4 n4 k4) ∧ W.cell? ⟨t4.heap.size, 2, none⟩ = some (.int .i64 (-3))) (first | with_reducible exact KS.out _ g9 | with_reducible exact KS.out _ g8 | with_reducible exact KS.out _ g7 | with_reducible exact KS.out _ g6 | with_reducible exact KS.out _ g0) (first
    | (go_at_call 8; refine (I3.out _).mono ?_; rintro e' t6 ⟨⟨a6, n6, k6, rfl, hn6⟩, g6⟩)
    | (go_at_call_of 7 a1; refine (S1.out t6 a6 n6 k6 g6 hn6).mono ?_; rintro e' t7 ⟨rfl, hb7⟩; have g7 := bl_trans8 g6 hb7)
    | (go_at_call 8; refine (I11.out _).mono ?_; rintro e' t8 ⟨⟨a8, n8, k8, rfl, hn8⟩, hb8⟩; have g8 := bl_trans8 g7 hb8)
    | (go_at_call_of 7 a4; refine (S4.out t8 a8 n8 k8 g8 hn8).mono ?_; rintro e' t9 ⟨rfl, hb9⟩; have g9 := bl_trans8 g8 hb9))
  all_goals
    have HE := hide (bl_trans8 HGD.out g9)
    clear g9 g8 g7 g6 g0 y0 y1 y2 y3 y4 y5 KS S1 S4 I3 I11
    go_wp2
    go_ret
    exact ⟨rfl, HE.out⟩

end Go.Proofs.YtppblbhkghjphaaGreatDoor
