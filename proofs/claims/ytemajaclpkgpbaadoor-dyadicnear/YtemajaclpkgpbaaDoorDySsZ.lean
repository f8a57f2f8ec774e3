/- The laws' same of any two answers: it tells something. -/
import Derived.Test.YtemajaclpkgpbaaDoorDyDmZ
import Derived.Test.YtemajaclpkgpbaaDoorDyNgZ
namespace Go.Proofs.YtemajaclpkgpbaaDoor
open Go.RowKit
open Lm
attribute [local go_sem ↓] Go.wp_at_zero Go.wp_at_succ

set_option maxRecDepth 20000 in
set_option maxHeartbeats 1600000 in
theorem is_some (v u : Value) (x : Nat) (rs : List Nat) (w : World) (hn : Num w v x) (ha : Arg w u rs) (hf : blen x ≤ 67108864) :
    Calls Tryd.prog 27 #[v, u] w fun e w' => (∃ c, e = .returned (.bool c)) ∧ Below w.heap.size w w' := by
  obtain ⟨ds, hd1, hd2, hd3, hd4, hd5⟩ := hn
  have hf2 : ds.length ≤ 35184372088832 := by
    refine Nat.le_of_not_lt fun hlt => ?_
    obtain ⟨n, hn⟩ : ∃ n, ds.length = n + 1 := ⟨ds.length - 1, by omega⟩
    have h1 := blen_vb hd2 hd3 n hn
    have h2 := tr_last' ds n hd3 hn
    have h3 := blen_half _ h2
    rw [hd4] at h1
    omega
  have hpl : (pairs ds).length ≤ 1048576 := few_ofW (pairs_tr ds hd3) (by rw [pairs_val, hd4]) (by omega)
  have HL := limbs_any v ds w hd1 hd2 hf2
  obtain ⟨ps, hps⟩ : ∃ ps, pairs ds = ps := ⟨_, rfl⟩
  rw [hps] at HL hpl
  clear hf hps hd1 hd2 hd3 hd4 hd5 hf2
  obtain ⟨a2, c2, rfl, hc2, hm2, L2⟩ := ha.form
  have HA2 := hide ha
  clear ha L2
  by_cases hlen : ps.length = rs.length
  · have hne : ((ps.length : Int) != (rs.length : Int)) = false := by rw [hlen]; simp
    go_enter Tryd.func27, Tryd.ntmps27
    go_wp2_with fail
    refine HL.mono ?_
    rintro e w1 ⟨⟨v', rfl, hans⟩, hb⟩
    have A1 := hans.arg (by omega)
    have A2 := HA2.out.below hb
    have HB := hide hb
    clear HL hans hb
    obtain ⟨a1, c1, rfl, hc1, hm1, L1⟩ := A1.form
    obtain ⟨_, _, e9, _, _, L2⟩ := A2.form
    cases e9
    clear A1 A2
    go_wp2
    go_loopw [16] (fun i wr => ∃ k : Nat, k ≤ ps.length ∧ i = .int .i64 k ∧ Same w1 wr) (fun i _ => ps.length - (intOf i).toNat)
    case atStart => exact ⟨0, Nat.zero_le _, rfl, Same.refl _⟩
    case round =>
      obtain ⟨k, hk, rfl, hs⟩ := hrel
      by_cases hkl : k < ps.length
      · rcases L1.below (hs.below _) with h0 | ⟨b, off, rfl, hcell⟩
        · simp [h0] at hkl
        · rcases L2.below (hs.below _) with h0 | ⟨b', off', rfl, hcell'⟩
          · simp [h0] at hlen; simp [hlen] at hkl
          · have hck := hcell k hkl
            have hck' := hcell' k (by omega)
            generalize ps.getD k 0 = z at *
            generalize rs.getD k 0 = y at *
            have hi1 : (0 : Int) ≤ (k : Int) := by omega
            have hi2 : (k : Int) < (rs.length : Int) := by omega
            have hi3 : (k : Int) < (ps.length : Int) := by omega
            have HS := hide hs
            clear hcell hcell' L1 L2 hs
            by_cases hzy : z = y
            · subst hzy
              have hne2 : ((z : Int) != (z : Int)) = false := by simp
              go_wp2
              go_quiet (fail)
              go_wp2
              go_roundw
              case rel => exact ⟨k + 1, by omega, by go_num, HS.out.drewN _⟩
              case measure => simp [intOf]; omega
            · have hne1 : ((z : Int) == (y : Int)) = false := by rw [beq_eq_false_iff_ne]; omega
              have hne2 : ((z : Int) != (y : Int)) = true := by rw [bne, hne1]; rfl
              go_wp2
              go_quiet (fail)
              go_wp2
              go_ret
              exact ⟨⟨_, rfl⟩, HB.out.trans ((HS.out.drewN _).below _)⟩
      · have HS := hide hs
        clear L1 L2 hs
        go_wp2
        go_ret
        exact ⟨⟨_, rfl⟩, HB.out.trans (HS.out.below _)⟩
  · have hne1 : ((ps.length : Int) == (rs.length : Int)) = false := by rw [beq_eq_false_iff_ne]; omega
    have hne : ((ps.length : Int) != (rs.length : Int)) = true := by rw [bne, hne1]; rfl
    go_enter Tryd.func27, Tryd.ntmps27
    go_wp2_with fail
    refine HL.mono ?_
    rintro e w1 ⟨⟨v', rfl, hans⟩, hb⟩
    have A1 := hans.arg (by omega)
    have HB := hide hb
    clear HL hans hb
    obtain ⟨a1, c1, rfl, hc1, hm1, L1⟩ := A1.form
    clear A1 L1
    go_wp2
    go_ret
    exact ⟨⟨_, rfl⟩, HB.out⟩

set_option maxHeartbeats 1000000 in
theorem rzis_some (v : Value) (z : Int) (t : Bool) (u : Value) (rs : List Nat) (w : World) (h : Zn w v z) (ha : Arg w u rs) (hf : blen z.natAbs ≤ 67108864) :
    Calls Tryd.prog 16 #[v, .bool t, u] w fun e w' => (∃ c, e = .returned (.bool c)) ∧ Below w.heap.size w w' := by
  obtain ⟨b, a, n, k, rfl, hb, hn, hz⟩ := h.parts
  obtain ⟨w0, hw0, hb0, h0⟩ := enter1 w (.cells #[.bool b, .slice a n k] 34)
  obtain ⟨k0, k1⟩ := duo h0
  obtain ⟨a2, k2, rfl, _, _, _⟩ := ha.form
  have HI := is_some _ _ _ _ w0 (hn.below hb0) (ha.below hb0) hf
  have HB0 := hide hb0
  clear h hn hz hb0 h0 ha hb hf
  by_cases hbt : b = t
  · subst hbt
    have hbb : (b == b) = true := by simp
    go_enter Tryd.func16, Tryd.ntmps16
    go_wp2_with fail
    refine HI.mono ?_
    rintro e w1 ⟨⟨c9, rfl⟩, hb1⟩
    have HB1 := hide (HB0.out.trans (hb1.mono HB0.out.size))
    clear hb1 HI
    cases c9
    · go_wp2
      go_ret
      exact ⟨⟨_, rfl⟩, HB1.out⟩
    · go_wp2
      go_ret
      exact ⟨⟨_, rfl⟩, HB1.out⟩
  · have hbb : (b == t) = false := by rw [beq_eq_false_iff_ne]; exact hbt
    go_enter Tryd.func16, Tryd.ntmps16
    go_wp2
    go_ret
    exact ⟨⟨_, rfl⟩, HB0.out⟩

theorem yneg8 (b1 : Bool) (a1 : Option Addr) (n1 k1 : Nat) (ex1 : Int) (L : Nat) (V1 : Int) (w : World) (hT : Tab w) (h1 : I8 w b1 a1 n1 k1 ex1 L V1) :
    Calls Tryd.prog 31 #[.agg #[.bool b1, .slice a1 n1 k1, .int .i64 ex1]] w fun e w' => A8 w e w' L (-V1) := by
  obtain ⟨X, rfl, hA, hf, hX⟩ := h1
  cases hE1 : fitE ex1
  · exact (yneg_no b1 a1 _ k1 ex1 w hE1).mono fun e w' h => h.1.a8 (by decide) h.2
  · exact (yneg_ok b1 a1 k1 X ex1 w hA hT (by omega) hE1).mono fun e w' h => DRes.a8 h.1 hX.norm.neg (nr8_of _ _).neg8 h.2

theorem Ok8.neg {L : Nat} {V : Int} (h : Ok8 L V) : Ok8 L (-V) := by
  obtain ⟨M, E, r, n, b, f⟩ := h
  exact ⟨-M, E, r.neg, n.neg8, by rw [Int.natAbs_neg]; exact b, f⟩

end Go.Proofs.YtemajaclpkgpbaaDoor
