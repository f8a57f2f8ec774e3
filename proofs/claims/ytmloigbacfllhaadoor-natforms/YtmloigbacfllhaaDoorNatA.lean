/- The inner functions of package nat: trim, limb. -/
import Derived.Test.YtmloigbacfllhaaDoorChecked
import Derived.Test.YtmloigbacfllhaaDoorPure
import Derived.WalkKit
import Derived.WalkLawsBesides
namespace Go.Proofs.YtmloigbacfllhaaDoor
open Go.RowKit
open Lm

theorem hide {p : Prop} (h : p) : Hid p := h

/-- Limbs lie from an address on. -/
def Lies (w : World) (ao : Option Addr) (zs : List Nat) : Prop :=
  zs = [] ∨ ∃ b off, ao = some ⟨b, off, none⟩ ∧ ∀ k, k < zs.length → w.cell? ⟨b, off + k, none⟩ = some (.int .u64 ((zs.getD k 0 : Nat) : Int))

theorem trim_some (b off cap : Nat) (zs : List Nat) (w : World) (hcap : zs.length ≤ cap) (hmax : cap ≤ 9223372036854775807)
    (hc : ∀ k, k < zs.length → w.cell? ⟨b, off + k, none⟩ = some (.int .u64 ((zs.getD k 0 : Nat) : Int))) :
    Calls Tryd.prog 41 #[.slice (some ⟨b, off, none⟩) zs.length cap] w fun e w' => e = .returned (.slice (some ⟨b, off, none⟩) (tr zs).length cap) ∧ w' = w := by
  go_enter Tryd.func41, Tryd.ntmps41
  go_wp2
  go_loop [3] (fun n => ∃ k : Nat, k ≤ zs.length ∧ n = .int .i64 k ∧ tr (zs.take k) = tr zs) (fun n => (intOf n).toNat)
  case atStart => exact ⟨zs.length, Nat.le_refl _, rfl, by rw [List.take_length]⟩
  case round =>
    obtain ⟨k, hk, rfl, ht⟩ := hrel
    have HT : Hid (tr (zs.take k) = tr zs) := ht
    clear ht
    by_cases h0 : k = 0
    · subst h0
      go_wp2
      go_ret
      have e := HT.out
      simp only [List.take_zero, tr] at e
      rw [← e]
      exact ⟨rfl, rfl⟩
    · obtain ⟨j, rfl⟩ : ∃ j, k = j + 1 := ⟨k - 1, by omega⟩
      have hcj := hc j (by omega)
      clear hc
      by_cases hz : zs.getD j 0 = 0
      · have HZ : Hid (tr (zs.take j) = tr zs) := by rw [← tr_step zs j (by omega) hz]; exact HT.out
        rw [hz] at hcj
        clear hz HT
        go_wp2
        go_round
        case rel => exact ⟨j, by omega, by go_num, HZ.out⟩
        case measure => simp [intOf]
      · have HZ : Hid (tr zs = zs.take (j + 1)) := by rw [← HT.out]; exact tr_stop zs j (by omega) hz
        clear HT
        generalize zs.getD j 0 = z at hcj hz
        have hne : ((z : Int) == 0) = false := by rw [beq_eq_false_iff_ne]; omega
        clear hz
        go_wp2
        go_ret
        rw [HZ.out]
        have e : (zs.take (j + 1)).length = j + 1 := by simp; omega
        rw [e]
        exact ⟨rfl, rfl⟩

/-- An empty list: whatever its address. -/
theorem trim_none (ao : Option Addr) (cap : Nat) (w : World) (_hmax : cap ≤ 9223372036854775807) :
    Calls Tryd.prog 41 #[.slice ao 0 cap] w fun e w' => e = .returned (.slice ao 0 cap) ∧ w' = w := by
  go_enter Tryd.func41, Tryd.ntmps41
  go_wp2
  refine wp_loop_rounds 1 ?_
  rw [rounds_succ]
  go_wp2
  go_ret
  exact ⟨rfl, rfl⟩

theorem trim_any (ao : Option Addr) (cap : Nat) (zs : List Nat) (w : World) (hcap : zs.length ≤ cap) (hmax : cap ≤ 9223372036854775807) (hl : Lies w ao zs) :
    Calls Tryd.prog 41 #[.slice ao zs.length cap] w fun e w' => e = .returned (.slice ao (tr zs).length cap) ∧ w' = w := by
  rcases hl with rfl | ⟨b, off, rfl, hc⟩
  · exact trim_none ao cap w hmax
  · exact trim_some b off cap zs w hcap hmax hc

theorem Lies.tr {w : World} {ao : Option Addr} {zs : List Nat} (h : Lies w ao zs) : Lies w ao (tr zs) := by
  rcases h with rfl | ⟨b, off, rfl, hc⟩
  · exact .inl rfl
  · exact .inr ⟨b, off, rfl, fun k hk => by rw [tr_getD zs k hk]; exact hc k (Nat.lt_of_lt_of_le hk (tr_length_le zs))⟩

/-- A limb, or nought beyond the top. -/
theorem limb_any (ao : Option Addr) (cap : Nat) (zs : List Nat) (i : Nat) (w : World) (hcap : zs.length ≤ cap) (_hmax : cap ≤ 9223372036854775807) (hl : Lies w ao zs) :
    Calls Tryd.prog 46 #[.slice ao zs.length cap, .int .i64 i] w fun e w' => e = .returned (.int .u64 ((zs.getD i 0 : Nat) : Int)) ∧ w' = w := by
  by_cases hi : i < zs.length
  · rcases hl with rfl | ⟨b, off, rfl, hc⟩
    · simp at hi
    · have hci := hc i hi
      clear hc
      generalize zs.getD i 0 = z at hci ⊢
      go_enter Tryd.func46, Tryd.ntmps46
      go_wp2
      go_ret
      exact ⟨rfl, rfl⟩
  · have e : zs.getD i 0 = 0 := by simp [List.getD, Nat.le_of_not_lt hi]
    rw [e]
    clear hl e
    go_enter Tryd.func46, Tryd.ntmps46
    go_wp2
    go_ret
    exact ⟨rfl, rfl⟩

end Go.Proofs.YtmloigbacfllhaaDoor
