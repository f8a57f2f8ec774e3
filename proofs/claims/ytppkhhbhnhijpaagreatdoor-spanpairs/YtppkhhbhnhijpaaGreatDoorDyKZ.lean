/- The document's answer against the program's: Fits, Told, the laws' alike, lent, of. -/
import Derived.Test.YtppkhhbhnhijpaaGreatDoorDyJZ
import Derived.Test.YtppkhhbhnhijpaaGreatDoorQH
namespace Go.Proofs.YtppkhhbhnhijpaaGreatDoor
open Go.RowKit
open Lm
attribute [local go_sem ↓] Go.wp_at_zero Go.wp_at_succ

theorem rfits_any (n : Int) (w : World) : Calls Tryz.prog 11 #[.int .i64 n] w fun e w' => e = .returned (.bool (fitE n)) ∧ w' = w := by
  by_cases h1 : -1099511627776 ≤ n
  · have h1' : decide (-1099511627776 ≤ n) = true := decide_eq_true h1
    by_cases h2 : n ≤ 1099511627776
    · have h2' : decide (n ≤ 1099511627776) = true := decide_eq_true h2
      rw [(fitE_iff n).2 ⟨h1, h2⟩]
      go_enter Tryz.func11, Tryz.ntmps11
      go_wp2
      go_ret
      exact ⟨rfl, rfl⟩
    · have h2' : decide (n ≤ 1099511627776) = false := decide_eq_false h2
      have e : fitE n = false := by rw [← Bool.not_eq_true, fitE_iff]; omega
      rw [e]
      go_enter Tryz.func11, Tryz.ntmps11
      go_wp2
      go_ret
      exact ⟨rfl, rfl⟩
  · have h1' : decide (-1099511627776 ≤ n) = false := decide_eq_false h1
    have e : fitE n = false := by rw [← Bool.not_eq_true, fitE_iff]; omega
    rw [e]
    go_enter Tryz.func11, Tryz.ntmps11
    go_wp2
    go_ret
    exact ⟨rfl, rfl⟩

/-- What Told answers. -/
def ToldR (w' : World) (b : Bool) (v : Value) (M E : Int) (b' : Bool) (v' : Value) (E' f : Int) : Prop :=
  (f = 0 ∧ b' = b ∧ v' = v ∧ E' = E ∧ blen M.natAbs ≤ 67108864 ∧ fitE E = true ∧ Dn w' b v M) ∨ (f = 3 ∧ 67108864 < blen M.natAbs) ∨ (f = 80 ∧ blen M.natAbs ≤ 67108864 ∧ fitE E = false)

set_option maxRecDepth 20000 in
set_option maxHeartbeats 1000000 in
theorem rtold_any (b : Bool) (a : Option Addr) (n c : Nat) (M E : Int) (w : World) (h : Dn w b (.slice a n c) M) :
    Calls Tryz.prog 72 #[.agg #[.bool b, .slice a n c, .int .i64 E]] w fun e w' => (∃ b' a' n' c' E' f, e = .returned (.tuple #[.agg #[.bool b', .slice a' n' c', .int .i64 E'], .int .i64 f]) ∧ ToldR w' b (.slice a n c) M E b' (.slice a' n' c') E' f) ∧ Below w.heap.size w w' := by
  obtain ⟨w0, hw0, hb0, h0, h1⟩ := enter2 w (.cells #[.bool b, .slice a n c, .int .i64 E] 45) (.cells #[.bool false, .slice none 0 0, .int .i64 0] 45)
  obtain ⟨k0, k1, k2⟩ := tri8 h0
  have hf := tri8f h1
  obtain ⟨m0, m1, m2⟩ := tri8 h1
  have HL := len_any _ M.natAbs w0 (h.2.below hb0)
  have HFI := rfits_any E w0
  have HC1 := hide h1
  have HG := hide hb0
  have HDN := hide (h.below hb0)
  clear h0 h1 hb0 h
  by_cases hb : blen M.natAbs ≤ 67108864
  · have i1 : ¬ (67108864 : Int) < ((blen M.natAbs : Nat) : Int) := by omega
    have HBL := hide hb
    by_cases hfit : fitE E = true
    · have HFE := hide hfit
      rw [hfit] at HFI
      clear hfit hb
      generalize hbl : blen M.natAbs = l at *
      go_enter Tryz.func72, Tryz.ntmps72
      go_wp2_with fail
      refine HL.mono ?_
      rintro e wn ⟨rfl, hw⟩; rw [hw]; clear hw wn HL
      go_wp2_with fail
      refine HFI.mono ?_
      rintro e wn ⟨rfl, hw⟩; rw [hw]; clear hw wn HFI
      go_wp2
      have T3 := tri8_all HC1.out (.bool b) (.slice a n c) (.int .i64 E)
      have T4 := below_tri8 HG.out (show w.heap.size ≤ w.heap.size + 1 by omega) (.bool b) (.slice a n c) (.int .i64 E)
      have T5 := HDN.out.tri8 HC1.out b a n c (.int .i64 E)
      obtain ⟨p0, p1, p2⟩ := tri8 T3
      have HE := hide (And.intro T5 T4)
      clear T3 T4 T5
      generalize ((w0.setCell ⟨w.heap.size + 1, 0, none⟩ (.bool b)).setCell ⟨w.heap.size + 1, 1, none⟩ (.slice a n c)).setCell ⟨w.heap.size + 1, 2, none⟩ (.int .i64 E) = w5 at *
      refine bodyPost_ret (v := .tuple #[.agg #[.bool b, .slice a n c, .int .i64 E], .int .i64 0]) (by simp [results, Tryz.results72, go_sem, p0, p1, p2]) rfl ?_
      exact ⟨⟨_, _, _, _, _, _, rfl, .inl ⟨rfl, rfl, rfl, rfl, by rw [hbl]; exact HBL.out, HFE.out, HE.out.1⟩⟩, HE.out.2⟩
    · have hfit2 : fitE E = false := by simpa using hfit
      have HFE := hide hfit2
      rw [hfit2] at HFI
      clear hfit hfit2 hb
      generalize hbl : blen M.natAbs = l at *
      go_enter Tryz.func72, Tryz.ntmps72
      go_wp2_with fail
      refine HL.mono ?_
      rintro e wn ⟨rfl, hw⟩; rw [hw]; clear hw wn HL
      go_wp2_with fail
      refine HFI.mono ?_
      rintro e wn ⟨rfl, hw⟩; rw [hw]; clear hw wn HFI
      go_wp2
      have T3 := tri8_all HC1.out (.bool false) (.slice none 0 0) (.int .i64 0)
      have T4 := below_tri8 HG.out (show w.heap.size ≤ w.heap.size + 1 by omega) (.bool false) (.slice none 0 0) (.int .i64 0)
      have T5 := HDN.out.tri8 HC1.out false none 0 0 (.int .i64 0)
      obtain ⟨p0, p1, p2⟩ := tri8 T3
      have HE := hide (And.intro T5 T4)
      clear T3 T4 T5
      generalize ((w0.setCell ⟨w.heap.size + 1, 0, none⟩ (.bool false)).setCell ⟨w.heap.size + 1, 1, none⟩ (.slice none 0 0)).setCell ⟨w.heap.size + 1, 2, none⟩ (.int .i64 0) = w5 at *
      refine bodyPost_ret (v := .tuple #[.agg #[.bool false, .slice none 0 0, .int .i64 0], .int .i64 80]) (by simp [results, Tryz.results72, go_sem, p0, p1, p2]) rfl ?_
      exact ⟨⟨_, _, _, _, _, _, rfl, .inr (.inr ⟨rfl, by rw [hbl]; exact HBL.out, HFE.out⟩)⟩, HE.out.2⟩
  · have i1 : (67108864 : Int) < ((blen M.natAbs : Nat) : Int) := by omega
    have HBL := hide (Nat.lt_of_not_le hb)
    clear hb HFI
    generalize hbl : blen M.natAbs = l at *
    go_enter Tryz.func72, Tryz.ntmps72
    go_wp2_with fail
    refine HL.mono ?_
    rintro e wn ⟨rfl, hw⟩; rw [hw]; clear hw wn HL
    go_wp2
    have T3 := tri8_all HC1.out (.bool false) (.slice none 0 0) (.int .i64 0)
    have T4 := below_tri8 HG.out (show w.heap.size ≤ w.heap.size + 1 by omega) (.bool false) (.slice none 0 0) (.int .i64 0)
    have T5 := HDN.out.tri8 HC1.out false none 0 0 (.int .i64 0)
    obtain ⟨p0, p1, p2⟩ := tri8 T3
    have HE := hide (And.intro T5 T4)
    clear T3 T4 T5
    generalize ((w0.setCell ⟨w.heap.size + 1, 0, none⟩ (.bool false)).setCell ⟨w.heap.size + 1, 1, none⟩ (.slice none 0 0)).setCell ⟨w.heap.size + 1, 2, none⟩ (.int .i64 0) = w5 at *
    refine bodyPost_ret (v := .tuple #[.agg #[.bool false, .slice none 0 0, .int .i64 0], .int .i64 3]) (by simp [results, Tryz.results72, go_sem, p0, p1, p2]) rfl ?_
    exact ⟨⟨_, _, _, _, _, _, rfl, .inr (.inl ⟨rfl, by rw [hbl]; exact HBL.out⟩)⟩, HE.out.2⟩

end Go.Proofs.YtppkhhbhnhijpaaGreatDoor
