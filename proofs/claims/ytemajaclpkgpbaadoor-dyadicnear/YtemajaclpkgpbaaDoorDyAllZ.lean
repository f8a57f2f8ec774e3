/- The laws' all, of surdlaw08. -/
import Derived.Test.YtemajaclpkgpbaaDoorQ9
namespace Go.Proofs.YtemajaclpkgpbaaDoor
open Go.RowKit
open Lm
attribute [local go_sem ↓] Go.wp_at_zero Go.wp_at_succ

/-- The codes as the list holds them. -/
def codes8 (cs : List Int) : Array Value := (cs.map (Value.int .i64)).toArray

theorem codes_cell8 {w : World} {L : Nat} {cs : List Int} {t : TypeId} (h : w.heap[L]? = some (.cells (codes8 cs) t)) (k : Nat) (hk : k < cs.length) : w.cell? ⟨L, k, none⟩ = some (.int .i64 (cs.getD k 0)) := by
  simp [World.cell?, h, codes8, List.getD, hk]

theorem all_step8 {cs : List Int} {k : Nat} (hk : k < cs.length) (h : (cs.take k).all (· == 0) = true) (h0 : cs.getD k 0 = 0) : (cs.take (k + 1)).all (· == 0) = true := by
  have e : cs.getD k 0 = cs[k] := by simp [List.getD, hk]
  rw [List.take_succ_eq_append_getElem hk, List.all_append, h]
  simp only [Bool.true_and, List.all_cons, List.all_nil, Bool.and_true, beq_iff_eq]
  rw [← e]; exact h0

set_option maxHeartbeats 1000000 in
theorem yall_any (L n : Nat) (cs : List Int) (w : World) (hn : cs.length = n) (hn2 : n ≤ 1000) (hL : w.heap[L]? = some (.cells (codes8 cs) 39)) :
    Calls Tryd.prog 32 #[.slice (some ⟨L, 0, none⟩) n n] w fun e w' => e = .returned (.bool (cs.all (· == 0))) ∧ w' = w := by
  have HL := hide hL
  have HN := hide hn
  clear hL
  go_enter Tryd.func32, Tryd.ntmps32
  go_wp2
  go_loop [7] (fun i => ∃ k : Nat, k ≤ n ∧ i = .int .i64 k ∧ (cs.take k).all (· == 0) = true) (fun i => n - (intOf i).toNat)
  case atStart => exact ⟨0, Nat.zero_le _, rfl, by simp⟩
  case round =>
    obtain ⟨k, hk, rfl, hall⟩ := hrel
    have HALL := hide hall
    clear hall
    by_cases hkn : k < n
    · have hck := codes_cell8 HL.out k (by omega)
      have HM := num8_any (cs.getD k 0) w
      by_cases h0 : cs.getD k 0 = 0
      · have HS := hide (all_step8 (by omega) HALL.out h0)
        rw [h0] at hck HM
        clear h0
        go_wp2_with fail
        refine HM.mono ?_
        rintro e wn ⟨rfl, hw⟩; rw [hw]; clear hw wn HM
        go_wp2
        go_round
        case rel => exact ⟨k + 1, by omega, by go_num, HS.out⟩
        case measure => simp [intOf]; omega
      · have HF : Hid (cs.all (· == 0) = false) := by
          refine hide ?_
          rw [List.all_eq_false]
          have e : cs.getD k 0 = cs[k] := by simp [List.getD, show k < cs.length by omega]
          exact ⟨cs[k], List.getElem_mem _, by rw [← e]; simpa using h0⟩
        generalize cs.getD k 0 = c at *
        have hne : (c != 0) = true := by simpa using h0
        have hne2 : (c == 0) = false := by simpa using h0
        go_wp2_with fail
        refine HM.mono ?_
        rintro e wn ⟨rfl, hw⟩; rw [hw]; clear hw wn HM
        go_wp2
        go_ret
        rw [HF.out]
        exact ⟨rfl, rfl⟩
    · have ek : k = n := by omega
      subst ek
      have HF : Hid (cs.all (· == 0) = true) := hide (by have h := HALL.out; rw [← HN.out, List.take_length] at h; exact h)
      go_wp2
      go_ret
      rw [HF.out]
      exact ⟨rfl, rfl⟩

end Go.Proofs.YtemajaclpkgpbaaDoor
