/- Package nat: Norm, Bit; the reference's Bit at any place, Tail, Count. -/
import Derived.Test.YtmloigbacfllhaaDoorTailA
import Derived.Test.YtmloigbacfllhaaDoorBitC
import Derived.Test.YtmloigbacfllhaaDoorRefB
import Derived.Test.YtmloigbacfllhaaDoorRefD
import Derived.Laws.AppendOwnNone
namespace Go.Proofs.YtmloigbacfllhaaDoor
open Go.RowKit
open Lm
attribute [local go_sem ↓] Go.wp_at_zero Go.wp_at_succ

theorem lies_news {w : World} {b off : Nat} {X : List Nat} (hc : ∀ k, k < X.length → w.cell? ⟨b, off + k, none⟩ = some (.int .u64 ((X.getD k 0 : Nat) : Int))) (j : Nat) (u : Value) (hj : (X.map lv)[j]? = some u) : w.cell? ((⟨b, off, none⟩ : Addr).add j) = some u := by
  rw [List.getElem?_map] at hj
  have hl : j < X.length := by
    refine Nat.lt_of_not_le fun h => ?_
    rw [List.getElem?_eq_none h] at hj
    cases hj
  have := hc j hl
  have e : X.getD j 0 = X[j] := by simp [List.getD, hl]
  rw [List.getElem?_eq_getElem hl] at hj
  cases hj
  have ea : (⟨b, off, none⟩ : Addr).add j = ⟨b, off + j, none⟩ := by simp [Addr.add]
  rw [ea, this, e]; rfl

set_option maxRecDepth 20000 in
theorem fresh_any (ao : Option Addr) (cap : Nat) (X : List Nat) (w : World) (hl : Lies w ao X) (hX : Limbs X) (hf : X.length ≤ 17592186044416) :
    Calls Tryd.prog 40 #[.slice ao X.length cap] w fun e w' => (∃ v, e = .returned v ∧ Ans w' w.heap.size v X) ∧ Below w.heap.size w w' := by
  obtain ⟨i0, hi, hz0, hz1, hz2⟩ := info_parts Tryd.infoU
  have ho : w.ownsRow w.heap.size 38 1 (.slice none 0 0) 0 [] := World.ownsRow_nil _ _ _ _
  have key : ∀ ad : Addr, (∀ j u, (X.map lv)[j]? = some u → w.cell? (ad.add j) = some u) → Calls Tryd.prog 40 #[.slice (some ad) X.length cap] w fun e w' => (∃ v, e = .returned v ∧ Ans w' w.heap.size v X) ∧ Below w.heap.size w w' := by
    intro ad hn
    have HX := hide hX
    clear hX hl
    go_enter Tryd.func40, Tryd.ntmps40
    go_wp2_with (at_builtin; refine wpList_append_own _ rfl _ _ 23 rfl w.heap.size 38 i0 (.int .u64 0) 1 8 Tryd.underlying23 hi hz0 hz1 hz2 rfl (by decide) _ _ _ rfl ho ad X.length cap (X.map lv) rfl (by simp) hn (lv_oneCell _) (by unfold maxLen; omega) (by omega) (Nat.le_refl _) ?_; intro v' w2 hown2 hgrow2 _)
    have HA : Hid (Ans w2 w.heap.size v' X) := by
      rw [Nat.zero_add, List.nil_append] at hown2
      exact ⟨hown2, HX.out⟩
    have HB : Hid (Below w.heap.size w w2) := (Below.refl _ _).grown hgrow2 (Nat.le_refl _) (fun k hk => by cases hk)
    clear hown2 hgrow2 ho hn
    go_wp2
    go_ret
    exact ⟨⟨_, rfl, HA.out⟩, HB.out⟩
  rcases hl with h0 | ⟨b, off, rfl, hc⟩
  · subst h0
    cases ao with
    | some ad => exact key ad (fun j u h => by simp at h)
    | none =>
      clear key ho hi hz0 hz1 hz2 hX
      go_enter Tryd.func40, Tryd.ntmps40
      go_wp2
      go_ret
      exact ⟨⟨_, rfl, Ans.nil _ _⟩, Below.refl _ _⟩
  · exact key _ (lies_news hc)

theorem nnorm_any (v : Value) (X : List Nat) (w : World) (hA : Arg w v X) (hf : X.length ≤ 17592186044416) :
    Calls Tryd.prog 10 #[v] w fun e w' => (∃ v, e = .returned v ∧ Ans w' w.heap.size v (tr X)) ∧ Below w.heap.size w w' := by
  obtain ⟨a1, c1, rfl, hc1, hm1, hl1⟩ := hA.form
  have T1 := trim_any a1 c1 X w hc1 hm1 hl1
  have l1 := tr_length_le X
  have F := fresh_any a1 c1 (tr X) w hl1.tr (limbs_tr hA.limbs) (by omega)
  clear hl1 hA
  go_enter Tryd.func10, Tryd.ntmps10
  go_wp2_with fail
  refine T1.mono ?_
  rintro e w2 ⟨rfl, rfl⟩
  clear T1
  go_wp2_with fail
  refine F.mono ?_
  rintro e w3 ⟨⟨v, rfl, ha⟩, hb⟩
  have HA := hide (And.intro ha hb)
  clear ha hb F
  go_wp2
  go_ret
  exact ⟨⟨v, rfl, HA.out.1⟩, HA.out.2⟩

theorem bit_limb (X : List Nat) (q s : Nat) (h : Limbs X) (hs : s < 64) : val X / 2 ^ (64 * q + s) % 2 = X.getD q 0 / 2 ^ s % 2 := by
  induction q generalizing X with
  | zero =>
    have h1 := val_tail X
    have h2 : val X % 2 ^ 64 = X.getD 0 0 := by
      have := limb_lt h 0
      rw [show (2 : Nat) ^ 64 = 18446744073709551616 from rfl]
      omega
    rw [Nat.mul_zero, Nat.zero_add, bit_tb, bit_tb, ← h2, Nat.testBit_mod_two_pow]
    simp [hs]
  | succ q ih =>
    have h1 := val_tail X
    have h3 := limb_lt h 0
    have h2 : val X / 2 ^ 64 = val X.tail := by
      rw [show (2 : Nat) ^ 64 = 18446744073709551616 from rfl]
      omega
    have e : 64 * (q + 1) + s = 64 + (64 * q + s) := by omega
    rw [e, Nat.pow_add, ← Nat.div_div_eq_div_mul, h2, ih X.tail (limbs_tail h), tail_getD]

/-- A bit at any place, below 0 too. -/
def bitI (x : Nat) (i : Int) : Nat := if i < 0 then 0 else x / 2 ^ i.toNat % 2

set_option maxRecDepth 20000 in
theorem nbit_any (v : Value) (X : List Nat) (i : Int) (w : World) (hA : Arg w v X) (h1 : -9223372036854775808 ≤ i) (h2 : i ≤ 9223372036854775807) :
    Calls Tryd.prog 18 #[v, .int .i64 i] w fun e w' => e = .returned (.int .i64 ((bitI (val X) i : Nat) : Int)) ∧ w' = w := by
  by_cases h0 : i < 0
  · have e : bitI (val X) i = 0 := if_pos h0
    rw [e]
    clear hA
    go_enter Tryd.func18, Tryd.ntmps18
    go_wp2
    go_ret
    exact ⟨rfl, rfl⟩
  · obtain ⟨n, rfl⟩ : ∃ n : Nat, i = (n : Int) := ⟨i.toNat, by omega⟩
    obtain ⟨q, s, hq, hs⟩ : ∃ q s : Nat, n = 64 * q + s ∧ s < 64 := ⟨n / 64, n % 64, by omega, by omega⟩
    have e : bitI (val X) (n : Int) = X.getD q 0 / 2 ^ s % 2 := by
      unfold bitI
      rw [if_neg h0, Int.toNat_natCast, hq]
      exact bit_limb X q s hA.limbs hs
    rw [e]
    have i2 : (n : Int) / 64 = (q : Int) := by omega
    have i3 : (n : Int) % 64 = (s : Int) := by omega
    obtain ⟨a1, c1, rfl, hc1, hm1, hl1⟩ := hA.form
    have L := limb_any a1 c1 X q w hc1 hm1 hl1
    have z := limb_lt hA.limbs q
    generalize X.getD q 0 = d at *
    have HQ := hide hq
    clear hl1 hA hq e
    go_enter Tryd.func18, Tryd.ntmps18
    go_wp2_with fail
    refine L.mono ?_
    rintro e w2 ⟨rfl, rfl⟩
    clear L
    go_wp2
    go_ret
    refine ⟨ret_int ?_, rfl⟩
    have hd3 : d / 2 ^ s ≤ d := Nat.div_le_self _ _
    have := and_one64 (d / 2 ^ s) (by omega)
    rw [← walk_shr'] at this
    rw [this]

theorem rbitI_any (v : Value) (x : Nat) (i : Int) (w : World) (hn : Num w v x) (h1 : -9223372036854775808 ≤ i) (h2 : i ≤ 9223372036854775807) :
    Calls Tryd.prog 19 #[v, .int .i64 i] w fun e w' => e = .returned (.int .i64 ((bitI x i : Nat) : Int)) ∧ w' = w := by
  by_cases h0 : i < 0
  · have e : bitI x i = 0 := if_pos h0
    rw [e]
    obtain ⟨ds, hd1, hd2, hd3, rfl, hd5⟩ := hn
    obtain ⟨ao, cap, rfl, hcap, hmax, L1⟩ := hd1.form
    clear hd1 L1
    go_enter Tryd.func19, Tryd.ntmps19
    go_wp2
    go_ret
    exact ⟨rfl, rfl⟩
  · obtain ⟨n, rfl⟩ : ∃ n : Nat, i = (n : Int) := ⟨i.toNat, by omega⟩
    have e : bitI x (n : Int) = x / 2 ^ n % 2 := by
      unfold bitI
      rw [if_neg h0, Int.toNat_natCast]
    rw [e]
    exact rbit_any v x n w hn (by omega)

end Go.Proofs.YtmloigbacfllhaaDoor
