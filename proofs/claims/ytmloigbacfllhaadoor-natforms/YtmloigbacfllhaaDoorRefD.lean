/- The reference's numbers: Limbs, Is, Len. -/
import Derived.Test.YtmloigbacfllhaaDoorRefB
import Derived.Test.YtmloigbacfllhaaDoorP33
namespace Go.Proofs.YtmloigbacfllhaaDoor
open Go.RowKit
open Lm

set_option maxRecDepth 20000 in
set_option maxHeartbeats 1000000 in
theorem limbs_any (v : Value) (ds : List Nat) (w : World) (h : Arg w v ds) (hd : Digs 4294967296 ds) (hf : ds.length ≤ 35184372088832) :
    Calls Tryd.prog 42 #[v] w fun e w' => (∃ v', e = .returned v' ∧ Ans w' w.heap.size v' (pairs ds)) ∧ Below w.heap.size w w' := by
  obtain ⟨ao, cap, rfl, hcap, hmax, L1⟩ := h.form
  obtain ⟨i0, hi, hz0, hz1, hz2⟩ := info_parts Tryd.infoU
  have hpl := pairs_length ds
  clear h
  go_enter Tryd.func42, Tryd.ntmps42
  go_wp2
  go_loopw [3, 4] (fun o i wr => ∃ k : Nat, k ≤ (pairs ds).length ∧ i = .int .i64 ((2 * k : Nat) : Int) ∧ wr.ownsRow w.heap.size 38 1 o ((pairs ds).take k).length (((pairs ds).take k).map lv) ∧ Below w.heap.size w wr) (fun _ i _ => ds.length + 2 - (intOf i).toNat)
  case atStart => exact ⟨0, Nat.zero_le _, rfl, World.ownsRow_nil _ _ _ _, Below.refl _ _⟩
  case round =>
    obtain ⟨k, hk, rfl, ho, hbl⟩ := hrel
    have HB := hide hbl
    by_cases hkl : 2 * k < ds.length
    · rcases L1.below hbl with h0 | ⟨b, off, rfl, hcell⟩
      · simp [h0] at hkl
      · have hck := hcell (2 * k) hkl
        have HT := hide (take_snoc (pairs ds) k (by omega))
        have hpg := pairs_getD ds k
        have z1 := dig_lt (by omega) hd (2 * k)
        have z2 := dig_lt (by omega) hd (2 * k + 1)
        by_cases hk2 : 2 * k + 1 < ds.length
        · have hck2 := hcell (2 * k + 1) hk2
          rw [hpg] at HT
          generalize ds.getD (2 * k) 0 = x at *
          generalize ds.getD (2 * k + 1) 0 = y at *
          have i1 : (2 : Int) * (k : Int) + 1 < (ds.length : Int) := by omega
          have e1 : (x : Int) + (y : Int) * 4294967296 = ((x + y * 4294967296 : Nat) : Int) := by omega
          have b1 : x + y * 4294967296 < 18446744073709551616 := by omega
          generalize x + y * 4294967296 = z at *
          clear hcell L1 hbl hd hpg
          go_wp2_with (at_builtin; refine wpList_append_own _ rfl _ _ 22 rfl w.heap.size 38 i0 (.int .u64 0) 1 8 Tryd.underlying22 hi hz0 hz1 hz2 rfl (by decide) _ _ _ rfl (ho.alloc _) ⟨wr.heap.size, 0, none⟩ 1 1 ([z].map lv) rfl rfl (news_cells [z]) (lv_oneCell _) (by simp only [List.length_take]; unfold maxLen; omega) (by simp only [List.length_take]; omega) (by have := HB.out.size; simp; omega) ?_; intro v' w2 hown2 hgrow2 _)
          have HO := hide hown2
          have HB2 := hide ((HB.out.alloc HB.out.size (.cells ([z].map lv).toArray 38)).grown hgrow2 (by have := HB.out.size; simp; omega) (fun k hk => (ho.lt k hk).1))
          clear hown2 hgrow2 ho
          go_wp2
          go_roundw
          case rel =>
            refine ⟨k + 1, by omega, by go_num, ?_, HB2.out⟩
            rw [HT.out, List.length_append, List.map_append]
            exact HO.out
          case measure => simp [intOf]; omega
        · have e0 : ds.getD (2 * k + 1) 0 = 0 := by simp [List.getD, Nat.le_of_not_lt hk2]
          rw [hpg, e0, Nat.zero_mul, Nat.add_zero] at HT
          generalize ds.getD (2 * k) 0 = x at *
          have hd1 : decide ((2 : Int) * (k : Int) + 1 < (ds.length : Int)) = false := decide_eq_false (by omega)
          clear hcell L1 hbl hd hpg e0
          go_wp2_with (at_builtin; refine wpList_append_own _ rfl _ _ 22 rfl w.heap.size 38 i0 (.int .u64 0) 1 8 Tryd.underlying22 hi hz0 hz1 hz2 rfl (by decide) _ _ _ rfl (ho.alloc _) ⟨wr.heap.size, 0, none⟩ 1 1 ([x].map lv) rfl rfl (news_cells [x]) (lv_oneCell _) (by simp only [List.length_take]; unfold maxLen; omega) (by simp only [List.length_take]; omega) (by have := HB.out.size; simp; omega) ?_; intro v' w2 hown2 hgrow2 _)
          have HO := hide hown2
          have HB2 := hide ((HB.out.alloc HB.out.size (.cells ([x].map lv).toArray 38)).grown hgrow2 (by have := HB.out.size; simp; omega) (fun k hk => (ho.lt k hk).1))
          clear hown2 hgrow2 ho
          go_wp2
          go_roundw
          case rel =>
            refine ⟨k + 1, by omega, by go_num, ?_, HB2.out⟩
            rw [HT.out, List.length_append, List.map_append]
            exact HO.out
          case measure => simp [intOf]; omega
    · have ek : k = (pairs ds).length := by omega
      rw [ek, List.take_length] at ho
      have HA : Hid (Ans wr w.heap.size u3 (pairs ds)) := ⟨ho, pairs_limbs ds hd⟩
      clear ho hbl L1 hd
      go_wp2
      go_ret
      exact ⟨⟨_, rfl, HA.out⟩, HB.out⟩

set_option maxRecDepth 20000 in
set_option maxHeartbeats 800000 in
theorem is_true (v u : Value) (x : Nat) (rs : List Nat) (w : World) (hn : Num w v x) (ha : Arg w u rs) (ht : tr rs = rs) (hv : val rs = x) (hf : blen x ≤ 1125899906842624) :
    Calls Tryd.prog 11 #[v, u] w fun e w' => e = .returned (.bool true) ∧ Below w.heap.size w w' := by
  obtain ⟨ds, hd1, hd2, hd3, hd4, hd5⟩ := hn
  have hf2 : ds.length ≤ 35184372088832 := by
    refine Nat.le_of_not_lt fun hlt => ?_
    obtain ⟨n, hn⟩ : ∃ n, ds.length = n + 1 := ⟨ds.length - 1, by omega⟩
    have h1 := blen_vb hd2 hd3 n hn
    have h2 := tr_last' ds n hd3 hn
    have h3 := blen_half _ h2
    rw [hd4] at h1
    omega
  clear hf
  have HL := limbs_any v ds w hd1 hd2 hf2
  have he : pairs ds = rs := norm_inj _ _ (pairs_limbs ds hd2) ha.limbs (pairs_tr ds hd3) ht (by rw [pairs_val, hd4, hv])
  rw [he] at HL
  have hfew := ha.few
  clear he ht hv hd1 hd2 hd3 hd4 hd5 hf2
  go_enter Tryd.func11, Tryd.ntmps11
  go_wp2_with fail
  refine HL.mono ?_
  rintro e w1 ⟨⟨v', rfl, hans⟩, hb⟩
  have A1 := hans.arg hfew
  have A2 := ha.below hb
  have HB := hide hb
  clear HL hans hb ha
  obtain ⟨a1, c1, rfl, hc1, hm1, L1⟩ := A1.form
  obtain ⟨a2, c2, rfl, hc2, hm2, L2⟩ := A2.form
  have hne : ((rs.length : Int) != (rs.length : Int)) = false := by simp
  clear A1 A2
  go_wp2
  go_loopw [16] (fun i wr => ∃ k : Nat, k ≤ rs.length ∧ i = .int .i64 k ∧ Same w1 wr) (fun i _ => rs.length - (intOf i).toNat)
  case atStart => exact ⟨0, Nat.zero_le _, rfl, Same.refl _⟩
  case round =>
    obtain ⟨k, hk, rfl, hs⟩ := hrel
    by_cases hkl : k < rs.length
    · rcases L1.below (hs.below _) with h0 | ⟨b, off, rfl, hcell⟩
      · simp [h0] at hkl
      · rcases L2.below (hs.below _) with h0 | ⟨b', off', rfl, hcell'⟩
        · simp [h0] at hkl
        · have hck := hcell k hkl
          have hck' := hcell' k hkl
          generalize rs.getD k 0 = z at *
          have hne2 : ((z : Int) != (z : Int)) = false := by simp
          have hi1 : (0 : Int) ≤ (k : Int) := by omega
          have hi2 : (k : Int) < (rs.length : Int) := by omega
          have HS := hide hs
          clear hcell hcell' L1 L2 hs
          go_wp2
          go_quiet (fail)
          go_wp2
          go_roundw
          case rel => exact ⟨k + 1, by omega, by go_num, HS.out.drewN _⟩
          case measure => simp [intOf]; omega
    · have HS := hide hs
      clear L1 L2 hs
      go_wp2
      go_ret
      exact ⟨rfl, HB.out.trans (HS.out.below _)⟩

theorem ret_int {k : IntKind} {a b : Int} (h : a = b) : Ending.returned (.int k a) = .returned (.int k b) := by rw [h]

set_option maxRecDepth 20000 in
set_option maxHeartbeats 800000 in
theorem len_any (v : Value) (x : Nat) (w : World) (hn : Num w v x) :
    Calls Tryd.prog 17 #[v] w fun e w' => e = .returned (.int .i64 ((blen x : Nat) : Int)) ∧ w' = w := by
  obtain ⟨ds, hd1, hd2, hd3, rfl, hd5⟩ := hn
  obtain ⟨ao, cap, rfl, hcap, hmax, L1⟩ := hd1.form
  clear hd1
  by_cases h0 : ds.length = 0
  · have hz : ds = [] := List.length_eq_zero_iff.1 h0
    subst hz
    have e : blen (vb 4294967296 []) = 0 := rfl
    rw [e]
    clear L1 hd2 hd3 hd5 h0
    go_enter Tryd.func17, Tryd.ntmps17
    go_wp2
    go_ret
    exact ⟨rfl, rfl⟩
  · obtain ⟨n, hn⟩ : ∃ n, ds.length = n + 1 := ⟨ds.length - 1, by omega⟩
    rcases L1 with hz | ⟨b, off, rfl, hcell⟩
    · simp [hz] at h0
    · have hcn := hcell n (by omega)
      rw [blen_vb hd2 hd3 n hn]
      have hdl := dig_lt (by omega) hd2 n
      rw [hn] at hd5 ⊢
      have hz : (((n + 1 : Nat) : Int) == 0) = false := by rw [beq_eq_false_iff_ne]; omega
      have hz' : ((n : Int) + 1 == 0) = false := by rw [beq_eq_false_iff_ne]; omega
      generalize ds.getD n 0 = d at *
      have hbd : blen d ≤ 32 := (blen_le_iff d 32).2 hdl
      clear hcell hd2 hd3 h0 hn hcap
      go_enter Tryd.func17, Tryd.ntmps17
      go_wp2
      go_loop [3, 4] (fun a b => ∃ m y : Nat, a = .int .i64 m ∧ b = .int .u64 y ∧ m + blen y = 32 * n + blen d ∧ y < 4294967296) (fun _ b => (intOf b).toNat)
      case atStart => exact ⟨32 * n, d, by go_num, rfl, rfl, hdl⟩
      case round =>
        obtain ⟨m, y, rfl, rfl, hm, hy⟩ := hrel
        by_cases hy0 : y = 0
        · subst hy0
          have HM := hide hm
          have e0 : blen 0 = 0 := rfl
          have HM2 : Hid (m = 32 * n + blen d) := hide (by have := HM.out; rw [e0] at this; exact this)
          clear hm HM e0
          go_wp2
          go_ret
          exact ⟨ret_int (by have := HM2.out; omega), rfl⟩
        · have hb2 := blen_half y hy0
          have HM : Hid (m + 1 + blen (y / 2) = 32 * n + blen d) := hide (by omega)
          have hmb : m ≤ 32 * n + 32 := by omega
          have e1 : (y : Int) / 2 = ((y / 2 : Nat) : Int) := by omega
          have i1 : (0 : Int) < (y : Int) := by omega
          have i2 : y / 2 < y := by omega
          clear hm hb2
          generalize y / 2 = y2 at *
          go_wp2
          go_round
          case rel => exact ⟨m + 1, y2, by go_num, rfl, HM.out, by omega⟩
          case measure => simp [intOf]; omega

end Go.Proofs.YtmloigbacfllhaaDoor
