/- Package mul: part, told to the letter. -/
import Derived.Test.YtmloigbacfllhaaDoorMulS
import Derived.Test.YtmloigbacfllhaaDoorToomP
namespace Go.Proofs.YtmloigbacfllhaaDoor
open Go.RowKit
open Lm

set_option maxHeartbeats 400000 in
theorem part_front (b off n cap at' m : Nat) (w : World) (_hn : n ≤ 1125899906842624) (hcc : n ≤ cap) (hcm : cap ≤ 9223372036854775807) (h : at' + m ≤ n) (hat : at' < cap) :
    Calls Tryd.prog 88 #[.slice (some ⟨b, off, none⟩) n cap, .int .i64 at', .int .i64 m] w fun e w' => e = .returned (.slice (some ⟨b, off + at', none⟩) m (cap - at')) ∧ w' = w := by
  have i2 : (0 : Int) ≤ (at' : Int) := by omega
  have k1 : ¬ cap = at' := by omega
  have m1 : min (at' : Int) (n : Int) = (at' : Int) := by omega
  obtain ⟨s, es, hs1, hs2, es2⟩ : ∃ s : Nat, (at' : Int) + (m : Int) = (s : Int) ∧ s ≤ n ∧ at' ≤ s ∧ s - at' = m := ⟨at' + m, by omega, h, by omega, by omega⟩
  have i3 : (s : Int) ≤ (n : Int) := by omega
  have i4 : (at' : Int) ≤ (s : Int) := by omega
  have m2 : min (s : Int) (n : Int) = (s : Int) := by omega
  clear h
  go_enter Tryd.func88, Tryd.ntmps88
  go_wp2
  go_ret
  exact ⟨rfl, rfl⟩

set_option maxHeartbeats 400000 in
theorem part_rest (b off n cap at' m : Nat) (hn : n ≤ 1125899906842624) (hcc : n ≤ cap) (hcm : cap ≤ 9223372036854775807) (hm : m ≤ 1125899906842624) (h1 : at' ≤ n) (h2 : n ≤ at' + m) :
    ∃ off2 cap2, (off2 = off + at' ∨ n = at') ∧ n - at' ≤ cap2 ∧ cap2 ≤ cap ∧ ∀ w, Calls Tryd.prog 88 #[.slice (some ⟨b, off, none⟩) n cap, .int .i64 at', .int .i64 m] w fun e w' => e = .returned (.slice (some ⟨b, off2, none⟩) (n - at') cap2) ∧ w' = w := by
  have i2 : (0 : Int) ≤ (at' : Int) := by omega
  have m1 : min (at' : Int) (n : Int) = (at' : Int) := by omega
  obtain ⟨s, es, hs1⟩ : ∃ s : Nat, (at' : Int) + (m : Int) = (s : Int) ∧ n ≤ s := ⟨at' + m, by omega, by omega⟩
  have m2 : min (s : Int) (n : Int) = (n : Int) := by omega
  have i4 : (at' : Int) ≤ (n : Int) := by omega
  clear h2
  by_cases k1 : cap = at'
  · have e1 : n = at' := by omega
    subst e1
    subst k1
    refine ⟨off, 0, .inr rfl, by omega, by omega, fun w => ?_⟩
    have e2 : cap - cap = 0 := by omega
    rw [e2]
    clear m1 h1 i4
    have m1 : min (cap : Int) (cap : Int) = (cap : Int) := by omega
    go_enter Tryd.func88, Tryd.ntmps88
    go_wp2
    go_ret
    exact ⟨rfl, rfl⟩
  · refine ⟨off + at', cap - at', .inl rfl, by omega, by omega, fun w => ?_⟩
    go_enter Tryd.func88, Tryd.ntmps88
    go_wp2
    go_ret
    exact ⟨rfl, rfl⟩

end Go.Proofs.YtmloigbacfllhaaDoor
