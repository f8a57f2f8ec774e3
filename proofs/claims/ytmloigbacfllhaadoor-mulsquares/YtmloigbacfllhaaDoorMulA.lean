/- Package mul: limbs written over in place; trim. -/
import Derived.Test.YtmloigbacfllhaaDoorSeg
import Derived.Test.YtmloigbacfllhaaDoorNatD
namespace Go.Proofs.YtmloigbacfllhaaDoor
open Go.RowKit
open Lm

theorem mtrim_some (b off cap : Nat) (zs : List Nat) (w : World) (hcap : zs.length ≤ cap) (hmax : cap ≤ 9223372036854775807)
    (hc : ∀ k, k < zs.length → w.cell? ⟨b, off + k, none⟩ = some (.int .u64 ((zs.getD k 0 : Nat) : Int))) :
    Calls Tryd.prog 70 #[.slice (some ⟨b, off, none⟩) zs.length cap] w fun e w' => e = .returned (.slice (some ⟨b, off, none⟩) (tr zs).length cap) ∧ w' = w := by
  go_enter Tryd.func70, Tryd.ntmps70
  go_wp2
  go_loop [3] (fun n => ∃ k : Nat, k ≤ zs.length ∧ n = .int .i64 k ∧ tr (zs.take k) = tr zs) (fun n => (intOf n).toNat)
  case atStart => exact ⟨zs.length, Nat.le_refl _, rfl, by rw [List.take_length]⟩
  case round =>
    obtain ⟨k, hk, rfl, ht⟩ := hrel
    have HT : Hid (tr (zs.take k) = tr zs) := ht
    clear ht
    by_cases h0 : k = 0
    · subst h0
      go_wp2
      go_ret
      have e := HT.out
      simp only [List.take_zero, tr] at e
      rw [← e]
      exact ⟨rfl, rfl⟩
    · obtain ⟨j, rfl⟩ : ∃ j, k = j + 1 := ⟨k - 1, by omega⟩
      have hcj := hc j (by omega)
      clear hc
      by_cases hz : zs.getD j 0 = 0
      · have HZ : Hid (tr (zs.take j) = tr zs) := by rw [← tr_step zs j (by omega) hz]; exact HT.out
        rw [hz] at hcj
        clear hz HT
        go_wp2
        go_round
        case rel => exact ⟨j, by omega, by go_num, HZ.out⟩
        case measure => simp [intOf]
      · have HZ : Hid (tr zs = zs.take (j + 1)) := by rw [← HT.out]; exact tr_stop zs j (by omega) hz
        clear HT
        generalize zs.getD j 0 = z at hcj hz
        have hne : ((z : Int) == 0) = false := by rw [beq_eq_false_iff_ne]; omega
        clear hz
        go_wp2
        go_ret
        rw [HZ.out]
        have e : (zs.take (j + 1)).length = j + 1 := by simp; omega
        rw [e]
        exact ⟨rfl, rfl⟩

/-- An empty list: whatever its address. -/
theorem mtrim_none (ao : Option Addr) (cap : Nat) (w : World) (_hmax : cap ≤ 9223372036854775807) :
    Calls Tryd.prog 70 #[.slice ao 0 cap] w fun e w' => e = .returned (.slice ao 0 cap) ∧ w' = w := by
  go_enter Tryd.func70, Tryd.ntmps70
  go_wp2
  refine wp_loop_rounds 1 ?_
  rw [rounds_succ]
  go_wp2
  go_ret
  exact ⟨rfl, rfl⟩

theorem mtrim_any (ao : Option Addr) (cap : Nat) (zs : List Nat) (w : World) (hcap : zs.length ≤ cap) (hmax : cap ≤ 9223372036854775807) (hl : Lies w ao zs) :
    Calls Tryd.prog 70 #[.slice ao zs.length cap] w fun e w' => e = .returned (.slice ao (tr zs).length cap) ∧ w' = w := by
  rcases hl with rfl | ⟨b, off, rfl, hc⟩
  · exact mtrim_none ao cap w hmax
  · exact mtrim_some b off cap zs w hcap hmax hc

/-- Only block bz, and new memory, have turned. -/
structure Fr (bz : Nat) (w w' : World) : Prop where
  os : w'.os = w.os
  tape : w'.tape = w.tape
  output : w'.output = w.output
  size : w.heap.size ≤ w'.heap.size
  block : ∀ k, k < w.heap.size → k ≠ bz → w'.heap[k]? = w.heap[k]?

theorem Fr.refl (bz : Nat) (w : World) : Fr bz w w := ⟨rfl, rfl, rfl, Nat.le_refl _, fun _ _ _ => rfl⟩

theorem Fr.trans {bz : Nat} {a b c : World} (h : Fr bz a b) (k : Fr bz b c) : Fr bz a c :=
  ⟨k.os.trans h.os, k.tape.trans h.tape, k.output.trans h.output, Nat.le_trans h.size k.size, fun i h1 h2 => (k.block i (Nat.lt_of_lt_of_le h1 h.size) h2).trans (h.block i h1 h2)⟩

theorem Fr.setCell {bz : Nat} {a w : World} (h : Fr bz a w) (off : Nat) (u : Value) : Fr bz a (w.setCell ⟨bz, off, none⟩ u) :=
  ⟨h.os, h.tape, h.output, by simpa using h.size, fun k h1 h2 => (Below.heap_setCell w _ u k h2).trans (h.block k h1 h2)⟩

theorem Fr.drew {bz : Nat} {a w : World} (h : Fr bz a w) : Fr bz a w.drew := ⟨h.os, h.tape, h.output, h.size, h.block⟩

theorem Fr.of_below {bz : Nat} {w w' : World} (h : Below w.heap.size w w') : Fr bz w w' := ⟨h.os, h.tape, h.output, h.size, fun k h1 _ => h.block k h1⟩

/-- What is newer than the base may turn: so nothing below has. -/
theorem Fr.below {bz base : Nat} {w w' : World} (h : Fr bz w w') (h1 : base ≤ bz) (h2 : base ≤ w.heap.size) : Below base w w' :=
  ⟨h.os, h.tape, h.output, h.size, fun k hk => h.block k (by omega) (by omega)⟩

/-- A list of limbs that lies off a piece of block bz. -/
def Off (v : Value) (bz lo hi : Nat) : Prop := ∀ b off n c, v = .slice (some ⟨b, off, none⟩) n c → b ≠ bz ∨ off + n ≤ lo ∨ hi ≤ off

theorem Lies.fr {w w' : World} {ao : Option Addr} {X Z Z' : List Nat} {bz lo hi : Nat} (h : Lies w ao X) (ho : ∀ b off, ao = some ⟨b, off, none⟩ → b ≠ bz ∨ off + X.length ≤ lo ∨ hi ≤ off)
    (hf : Fr bz w w') (hb : Blk w bz Z) (hb' : Blk w' bz Z') (hz : Out Z Z' lo hi) : Lies w' ao X := by
  rcases h with h | ⟨b, off, rfl, hc⟩
  · exact .inl h
  · rcases Nat.eq_zero_or_pos X.length with h0 | h0
    · exact .inl (List.length_eq_zero_iff.1 h0)
    refine .inr ⟨b, off, rfl, fun k hk => ?_⟩
    have hlt : b < w.heap.size := Lies.block (zs := X) (.inr ⟨b, off, rfl, hc⟩) h0
    by_cases hbz : b = bz
    · subst hbz
      have h1 := hc k hk
      have hin : off + k < Z.length := by
        refine Nat.lt_of_not_le fun hle => ?_
        have : w.cell? ⟨b, off + k, none⟩ = none := by
          unfold Blk at hb
          simp [World.cell?, hb]; omega
        rw [this] at h1; cases h1
      rw [hb.cell _ hin] at h1
      rw [hb'.cell _ (by rw [hz.len]; exact hin), hz.same _ (by have := ho b off rfl; omega)]
      exact h1
    · have := hf.block b hlt hbz
      rw [World.cell?_of_block (w := w) this]
      exact hc k hk

theorem Arg.fr {w w' : World} {v : Value} {X Z Z' : List Nat} {bz lo hi : Nat} (h : Arg w v X) (ho : Off v bz lo hi)
    (hf : Fr bz w w') (hb : Blk w bz Z) (hb' : Blk w' bz Z') (hz : Out Z Z' lo hi) : Arg w' v X := by
  obtain ⟨ao, cap, h1, h2, h3, h4⟩ := h.form
  exact ⟨⟨ao, cap, h1, h2, h3, h4.fr (fun b off e => by subst e; exact ho b off _ _ h1) hf hb hb' hz⟩, h.limbs, h.few, h.nz⟩

end Go.Proofs.YtmloigbacfllhaaDoor
