import Derived.Test.YtmloigbacfllhaaDoorBitP
import Derived.Test.YtmloigbacfllhaaDoorRefD
import Derived.Test.YtmloigbacfllhaaDoorP34
namespace Go.Proofs.YtmloigbacfllhaaDoor
open Go.RowKit
open Lm
attribute [local go_sem ↓] Go.wp_at_zero Go.wp_at_succ

theorem walk_shr' (x k : Nat) : ((x : Int) / 2 ^ k) = ((x / 2 ^ k : Nat) : Int) := by
  rw [Int.natCast_ediv, Int.natCast_pow]; rfl

theorem bit_dig (ds : List Nat) (q s : Nat) (h : Digs 4294967296 ds) (hq : q < ds.length) (hs : s < 32) : vb 4294967296 ds / 2 ^ (32 * q + s) % 2 = ds.getD q 0 / 2 ^ s % 2 := by
  have h1 := vb_drop ds q h (by omega)
  have h2 := vb_head (ds.drop q) (fun z hz => h z (List.mem_of_mem_drop hz))
  have h3 : (ds.drop q).getD 0 0 = ds.getD q 0 := by simp [List.getD]
  rw [h3, h1] at h2
  have e1 : (4294967296 : Nat) ^ q = 2 ^ (32 * q) := by rw [Nat.pow_mul]
  rw [e1] at h2
  rw [bit_tb, bit_tb, ← h2, show (4294967296 : Nat) = 2 ^ 32 from rfl, Nat.testBit_mod_two_pow, Nat.testBit_div_two_pow]
  simp [hs, Nat.add_comm]

theorem bit_none (ds : List Nat) (q s : Nat) (h : Digs 4294967296 ds) (hq : ds.length ≤ q) : vb 4294967296 ds / 2 ^ (32 * q + s) % 2 = 0 := by
  have h1 := vb_lt h
  have e1 : (4294967296 : Nat) ^ ds.length = 2 ^ (32 * ds.length) := by rw [Nat.pow_mul]
  rw [e1] at h1
  have h2 : 2 ^ (32 * ds.length) ≤ 2 ^ (32 * q + s) := Nat.pow_le_pow_right (by omega) (by omega)
  rw [Nat.div_eq_of_lt (by omega)]

theorem and_one64 (x : Nat) (h : x < 18446744073709551616) : wrap64 (bits BinOp.and IntKind.u64 (x : Int) 1) = ((x % 2 : Nat) : Int) := by
  have := bits_and_u64_nat x 1 h (by omega)
  rw [show ((1 : Nat) : Int) = 1 from rfl] at this
  rw [this, Nat.and_one_is_mod]
  unfold wrap64
  omega

set_option maxRecDepth 20000 in
set_option maxHeartbeats 800000 in
theorem rbit_any (v : Value) (x i : Nat) (w : World) (hn : Num w v x) (hi : i ≤ 9223372036854775807) :
    Calls Tryd.prog 19 #[v, .int .i64 i] w fun e w' => e = .returned (.int .i64 ((x / 2 ^ i % 2 : Nat) : Int)) ∧ w' = w := by
  obtain ⟨ds, hd1, hd2, hd3, rfl, hd5⟩ := hn
  obtain ⟨ao, cap, rfl, hcap, hmax, L1⟩ := hd1.form
  clear hd1
  obtain ⟨q, s, hq, hs, hqs⟩ : ∃ q s : Nat, i = 32 * q + s ∧ s < 32 ∧ True := ⟨i / 32, i % 32, by omega, by omega, trivial⟩
  have i1 : ¬ (i : Int) < 0 := by omega
  have i2 : (i : Int) / 32 = (q : Int) := by omega
  have i3 : (i : Int) % 32 = (s : Int) := by omega
  by_cases h0 : ds.length ≤ q
  · have hr := bit_none ds q s hd2 h0
    rw [← hq] at hr
    rw [hr]
    have i4 : (ds.length : Int) ≤ (q : Int) := by omega
    have HQ := hide hq
    clear hd2 hd3 hr hq L1
    go_enter Tryd.func19, Tryd.ntmps19
    go_wp2
    go_ret
    exact ⟨rfl, rfl⟩
  · rcases L1 with hz | ⟨b, off, rfl, hcell⟩
    · simp [hz] at h0
    · have hcn := hcell q (by omega)
      have hdl := dig_lt (by omega) hd2 q
      have i4 : (q : Int) < (ds.length : Int) := by omega
      have hr : (vb 4294967296 ds / 2 ^ i % 2 : Nat) = ds.getD q 0 / 2 ^ s % 2 := by rw [hq]; exact bit_dig ds q s hd2 (by omega) hs
      rw [hr]
      generalize ds.getD q 0 = d at *
      have HQ := hide hq
      clear hcell hd2 hd3 hr hq
      go_enter Tryd.func19, Tryd.ntmps19
      go_wp2
      go_ret
      refine ⟨ret_int ?_, rfl⟩
      have hd3 : d / 2 ^ s ≤ d := Nat.div_le_self _ _
      have := and_one64 (d / 2 ^ s) (by omega)
      rw [← walk_shr'] at this
      rw [this]
      norm_cast

end Go.Proofs.YtmloigbacfllhaaDoor
