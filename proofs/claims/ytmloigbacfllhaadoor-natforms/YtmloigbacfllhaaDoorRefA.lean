/- The reference's numbers: norm, at, Of. -/
import Derived.Test.YtmloigbacfllhaaDoorNatD
import Derived.Test.YtmloigbacfllhaaDoorP32
namespace Go.Proofs.YtmloigbacfllhaaDoor
open Go.RowKit
open Lm

/-- A number of the reference: digits of 32 bits, no nought at the top. -/
def Num (w : World) (v : Value) (x : Nat) : Prop := ∃ ds, Arg w v ds ∧ Digs 4294967296 ds ∧ tr ds = ds ∧ vb 4294967296 ds = x ∧ ds.length ≤ 35184372088900

theorem Num.below {w w' : World} {v : Value} {x : Nat} (h : Num w v x) (hb : Below w.heap.size w w') : Num w' v x := by
  obtain ⟨ds, h1, h2⟩ := h
  exact ⟨ds, h1.below hb, h2⟩

theorem Num.nil (w : World) : Num w (.slice none 0 0) 0 :=
  ⟨[], ⟨⟨none, 0, rfl, by simp, by simp, .inl rfl⟩, (by intro z hz; cases hz), by simp, fun n c e => by cases e; rfl⟩, (by intro z hz; cases hz), rfl, rfl, by simp⟩

theorem norm_some (b off cap : Nat) (zs : List Nat) (w : World) (hcap : zs.length ≤ cap) (hmax : cap ≤ 9223372036854775807)
    (hc : ∀ k, k < zs.length → w.cell? ⟨b, off + k, none⟩ = some (.int .u64 ((zs.getD k 0 : Nat) : Int))) :
    Calls Tryd.prog 39 #[.slice (some ⟨b, off, none⟩) zs.length cap] w fun e w' => e = .returned (.slice (some ⟨b, off, none⟩) (tr zs).length (tr zs).length) ∧ w' = w := by
  go_enter Tryd.func39, Tryd.ntmps39
  go_wp2
  go_loop [3] (fun n => ∃ k : Nat, k ≤ zs.length ∧ n = .int .i64 k ∧ tr (zs.take k) = tr zs) (fun n => (intOf n).toNat)
  case atStart => exact ⟨zs.length, Nat.le_refl _, rfl, by rw [List.take_length]⟩
  case round =>
    obtain ⟨k, hk, rfl, ht⟩ := hrel
    have HT := hide ht
    clear ht
    by_cases h0 : k = 0
    · subst h0
      go_wp2
      go_ret
      have e := HT.out
      simp only [List.take_zero, tr] at e
      rw [← e]
      exact ⟨rfl, rfl⟩
    · obtain ⟨j, rfl⟩ : ∃ j, k = j + 1 := ⟨k - 1, by omega⟩
      have hcj := hc j (by omega)
      clear hc
      by_cases hz : zs.getD j 0 = 0
      · have HZ : Hid (tr (zs.take j) = tr zs) := by rw [← tr_step zs j (by omega) hz]; exact HT.out
        rw [hz] at hcj
        clear hz HT
        go_wp2
        go_round
        case rel => exact ⟨j, by omega, by go_num, HZ.out⟩
        case measure => simp [intOf]
      · have HZ : Hid (tr zs = zs.take (j + 1)) := by rw [← HT.out]; exact tr_stop zs j (by omega) hz
        clear HT
        generalize zs.getD j 0 = z at hcj hz
        have hne : ((z : Int) == 0) = false := by rw [beq_eq_false_iff_ne]; omega
        clear hz
        go_wp2
        go_ret
        rw [HZ.out]
        have e : (zs.take (j + 1)).length = j + 1 := by simp; omega
        rw [e]
        exact ⟨rfl, rfl⟩

theorem norm_none (ao : Option Addr) (cap : Nat) (w : World) (_hmax : cap ≤ 9223372036854775807) :
    Calls Tryd.prog 39 #[.slice ao 0 cap] w fun e w' => e = .returned (.slice ao 0 0) ∧ w' = w := by
  go_enter Tryd.func39, Tryd.ntmps39
  go_wp2
  refine wp_loop_rounds 1 ?_
  rw [rounds_succ]
  go_wp2
  go_ret
  exact ⟨rfl, rfl⟩

/-- Whatever limbs the value has lie from block B on. -/
def New (B : Nat) (v : Value) : Prop := ∀ b off n c, v = .slice (some ⟨b, off, none⟩) n c → B ≤ b

theorem New.nil (B n c : Nat) : New B (.slice none n c) := fun _ _ _ _ e => by cases e

theorem New.at (B b off n c : Nat) (h : B ≤ b) : New B (.slice (some ⟨b, off, none⟩) n c) := fun _ _ _ _ e => by cases e; exact h

theorem New.mono {B B' : Nat} {v : Value} (h : New B v) (hb : B' ≤ B) : New B' v := fun b off n c e => Nat.le_trans hb (h b off n c e)

/-- A store elsewhere leaves a number as it is. -/
theorem Num.store {w : World} {v : Value} {x g j : Nat} {u : Value} (h : Num w v x) (hn : New (g + 1) v) : Num (w.setCell ⟨g, j, none⟩ u) v x := by
  obtain ⟨ds, hA, hr⟩ := h
  refine ⟨ds, ?_, hr⟩
  obtain ⟨ao, cap, h1, h2, h3, h4⟩ := hA.form
  refine ⟨⟨ao, cap, h1, h2, h3, ?_⟩, hA.limbs, hA.few, hA.nz⟩
  rcases h4 with h4 | ⟨b, off, rfl, hc⟩
  · exact .inl h4
  · have hb := hn b off _ _ h1
    refine .inr ⟨b, off, rfl, fun k hk => ?_⟩
    rw [World.cell?_of_block (w := w) (Below.heap_setCell w ⟨g, j, none⟩ u b (by show b ≠ g; omega))]
    exact hc k hk

theorem norm_new (B : Nat) (v : Value) (ds : List Nat) (w : World) (h : Arg w v ds) (hd : Digs 4294967296 ds) (hl : ds.length ≤ 35184372088900) (hB : New B v) :
    Calls Tryd.prog 39 #[v] w fun e w' => (∃ v', e = .returned v' ∧ Num w v' (vb 4294967296 ds) ∧ New B v') ∧ w' = w := by
  obtain ⟨ao, cap, rfl, hcap, hmax, hlies⟩ := h.form
  have hle := tr_length_le ds
  have H : Calls Tryd.prog 39 #[.slice ao ds.length cap] w fun e w' => e = .returned (.slice ao (tr ds).length (tr ds).length) ∧ w' = w := by
    rcases hlies with rfl | ⟨b, off, rfl, hc⟩
    · exact norm_none ao cap w hmax
    · exact norm_some b off cap ds w hcap hmax hc
  refine H.mono ?_
  rintro e w' ⟨rfl, rfl⟩
  refine ⟨⟨_, rfl, ⟨tr ds, ⟨⟨ao, _, rfl, Nat.le_refl _, by omega, hlies.tr⟩, limbs_tr h.limbs, by omega, ?_⟩, digs_tr hd, tr_tr ds, vb_tr ds, by omega⟩, fun b off n c e => ?_⟩, rfl⟩
  rotate_left
  · cases e; exact hB b off _ _ rfl
  intro n c e
  cases e
  have := h.nz _ _ rfl
  omega

theorem norm_any (v : Value) (ds : List Nat) (w : World) (h : Arg w v ds) (hd : Digs 4294967296 ds) (hl : ds.length ≤ 35184372088900) :
    Calls Tryd.prog 39 #[v] w fun e w' => (∃ v', e = .returned v' ∧ Num w v' (vb 4294967296 ds)) ∧ w' = w :=
  (norm_new 0 v ds w h hd hl (fun _ _ _ _ _ => Nat.zero_le _)).mono fun _ _ ⟨⟨v', h1, h2, _⟩, h3⟩ => ⟨⟨v', h1, h2⟩, h3⟩

/-- A digit, or nought beyond the top. -/
theorem at_any (v : Value) (zs : List Nat) (i : Nat) (w : World) (h : Arg w v zs) :
    Calls Tryd.prog 71 #[v, .int .i64 i] w fun e w' => e = .returned (.int .u64 ((zs.getD i 0 : Nat) : Int)) ∧ w' = w := by
  obtain ⟨ao, cap, rfl, hcap, hmax, hl⟩ := h.form
  by_cases hi : i < zs.length
  · rcases hl with rfl | ⟨b, off, rfl, hc⟩
    · simp at hi
    · have hci := hc i hi
      clear hc h
      generalize zs.getD i 0 = z at hci ⊢
      go_enter Tryd.func71, Tryd.ntmps71
      go_wp2
      go_ret
      exact ⟨rfl, rfl⟩
  · have e : zs.getD i 0 = 0 := by simp [List.getD, Nat.le_of_not_lt hi]
    rw [e]
    clear hl e h
    go_enter Tryd.func71, Tryd.ntmps71
    go_wp2
    go_ret
    exact ⟨rfl, rfl⟩

end Go.Proofs.YtmloigbacfllhaaDoor
