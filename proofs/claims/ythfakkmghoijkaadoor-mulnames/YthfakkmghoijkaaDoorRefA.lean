/- The reference's numbers: norm, at, Of. -/
import Derived.Test.YthfakkmghoijkaaDoorNatD
import Derived.Test.YthfakkmghoijkaaDoorP32
namespace Go.Proofs.YthfakkmghoijkaaDoor
open Go.RowKit
open Lm

/-- A number of the reference: digits of 32 bits, no nought at the top. -/
def Num (w : World) (v : Value) (x : Nat) : Prop := ∃ ds, Arg w v ds ∧ Digs 4294967296 ds ∧ tr ds = ds ∧ vb 4294967296 ds = x ∧ ds.length ≤ 35184372088900

theorem Num.below {w w' : World} {v : Value} {x : Nat} (h : Num w v x) (hb : Below w.heap.size w w') : Num w' v x := by
  obtain ⟨ds, h1, h2⟩ := h
  exact ⟨ds, h1.below hb, h2⟩

theorem Num.nil (w : World) : Num w (.slice none 0 0) 0 :=
  ⟨[], ⟨⟨none, 0, rfl, by simp, by simp, .inl rfl⟩, (by intro z hz; cases hz), by simp, fun n c e => by cases e; rfl⟩, (by intro z hz; cases hz), rfl, rfl, by simp⟩

theorem norm_some (b off cap : Nat) (zs : List Nat) (w : World) (hcap : zs.length ≤ cap) (hmax : cap ≤ 9223372036854775807)
    (hc : ∀ k, k < zs.length → w.cell? ⟨b, off + k, none⟩ = some (.int .u64 ((zs.getD k 0 : Nat) : Int))) :
    Calls Tryd.prog 34 #[.slice (some ⟨b, off, none⟩) zs.length cap] w fun e w' => e = .returned (.slice (some ⟨b, off, none⟩) (tr zs).length (tr zs).length) ∧ w' = w := by
  go_enter Tryd.func34, Tryd.ntmps34
  go_wp2
  go_loop [3] (fun n => ∃ k : Nat, k ≤ zs.length ∧ n = .int .i64 k ∧ tr (zs.take k) = tr zs) (fun n => (intOf n).toNat)
  case atStart => exact ⟨zs.length, Nat.le_refl _, rfl, by rw [List.take_length]⟩
  case round =>
    obtain ⟨k, hk, rfl, ht⟩ := hrel
    have HT := hide ht
    clear ht
    by_cases h0 : k = 0
    · subst h0
      go_wp2
      go_ret
      have e := HT.out
      simp only [List.take_zero, tr] at e
      rw [← e]
      exact ⟨rfl, rfl⟩
    · obtain ⟨j, rfl⟩ : ∃ j, k = j + 1 := ⟨k - 1, by omega⟩
      have hcj := hc j (by omega)
      clear hc
      by_cases hz : zs.getD j 0 = 0
      · have HZ : Hid (tr (zs.take j) = tr zs) := by rw [← tr_step zs j (by omega) hz]; exact HT.out
        rw [hz] at hcj
        clear hz HT
        go_wp2
        go_round
        case rel => exact ⟨j, by omega, by go_num, HZ.out⟩
        case measure => simp [intOf]
      · have HZ : Hid (tr zs = zs.take (j + 1)) := by rw [← HT.out]; exact tr_stop zs j (by omega) hz
        clear HT
        generalize zs.getD j 0 = z at hcj hz
        have hne : ((z : Int) == 0) = false := by rw [beq_eq_false_iff_ne]; omega
        clear hz
        go_wp2
        go_ret
        rw [HZ.out]
        have e : (zs.take (j + 1)).length = j + 1 := by simp; omega
        rw [e]
        exact ⟨rfl, rfl⟩

theorem norm_none (ao : Option Addr) (cap : Nat) (w : World) (_hmax : cap ≤ 9223372036854775807) :
    Calls Tryd.prog 34 #[.slice ao 0 cap] w fun e w' => e = .returned (.slice ao 0 0) ∧ w' = w := by
  go_enter Tryd.func34, Tryd.ntmps34
  go_wp2
  refine wp_loop_rounds 1 ?_
  rw [rounds_succ]
  go_wp2
  go_ret
  exact ⟨rfl, rfl⟩

theorem norm_any (v : Value) (ds : List Nat) (w : World) (h : Arg w v ds) (hd : Digs 4294967296 ds) (hl : ds.length ≤ 35184372088900) :
    Calls Tryd.prog 34 #[v] w fun e w' => (∃ v', e = .returned v' ∧ Num w v' (vb 4294967296 ds)) ∧ w' = w := by
  obtain ⟨ao, cap, rfl, hcap, hmax, hlies⟩ := h.form
  have hle := tr_length_le ds
  have H : Calls Tryd.prog 34 #[.slice ao ds.length cap] w fun e w' => e = .returned (.slice ao (tr ds).length (tr ds).length) ∧ w' = w := by
    rcases hlies with rfl | ⟨b, off, rfl, hc⟩
    · exact norm_none ao cap w hmax
    · exact norm_some b off cap ds w hcap hmax hc
  refine H.mono ?_
  rintro e w' ⟨rfl, rfl⟩
  refine ⟨⟨_, rfl, tr ds, ⟨⟨ao, _, rfl, Nat.le_refl _, by omega, hlies.tr⟩, limbs_tr h.limbs, by omega, ?_⟩, digs_tr hd, tr_tr ds, vb_tr ds, by omega⟩, rfl⟩
  intro n c e
  cases e
  have := h.nz _ _ rfl
  omega

/-- A digit, or nought beyond the top. -/
theorem at_any (v : Value) (zs : List Nat) (i : Nat) (w : World) (h : Arg w v zs) :
    Calls Tryd.prog 52 #[v, .int .i64 i] w fun e w' => e = .returned (.int .u64 ((zs.getD i 0 : Nat) : Int)) ∧ w' = w := by
  obtain ⟨ao, cap, rfl, hcap, hmax, hl⟩ := h.form
  by_cases hi : i < zs.length
  · rcases hl with rfl | ⟨b, off, rfl, hc⟩
    · simp at hi
    · have hci := hc i hi
      clear hc h
      generalize zs.getD i 0 = z at hci ⊢
      go_enter Tryd.func52, Tryd.ntmps52
      go_wp2
      go_ret
      exact ⟨rfl, rfl⟩
  · have e : zs.getD i 0 = 0 := by simp [List.getD, Nat.le_of_not_lt hi]
    rw [e]
    clear hl e h
    go_enter Tryd.func52, Tryd.ntmps52
    go_wp2
    go_ret
    exact ⟨rfl, rfl⟩

end Go.Proofs.YthfakkmghoijkaaDoor
