/- The reference's lent memory: Lend, Kept. -/
import Derived.Test.YtmloigbacfllhaaDoorRefB
namespace Go.Proofs.YtmloigbacfllhaaDoor
open Go.RowKit
open Lm

/-- A list in the middle of greater memory. -/
def lent (zs : List Nat) : List Nat := 10855845 :: 10855845 :: (zs ++ [10855845, 10855845])

theorem lent_length (zs : List Nat) : (lent zs).length = zs.length + 4 := by simp [lent]

theorem lent_mid (zs : List Nat) (k : Nat) (h : k < zs.length) : (lent zs).getD (k + 2) 0 = zs.getD k 0 := by
  simp [lent, List.getD, h, List.getElem?_append_left h]

theorem lent_low (zs : List Nat) (k : Nat) (h : k < 2) : (lent zs).getD k 0 = 10855845 := by
  match k, h with
  | 0, _ => rfl
  | 1, _ => rfl

theorem lent_high (zs : List Nat) (k : Nat) (h1 : zs.length + 2 ≤ k) (h2 : k < zs.length + 4) : (lent zs).getD k 0 = 10855845 := by
  obtain ⟨j, rfl⟩ : ∃ j, k = zs.length + j + 2 := ⟨k - 2 - zs.length, by omega⟩
  match j, show j < 2 by omega with
  | 0, _ => simp [lent, List.getD]
  | 1, _ => simp [lent, List.getD]

theorem lent_limbs {zs : List Nat} (h : Limbs zs) : Limbs (lent zs) := by
  intro z hz
  simp only [lent, List.mem_cons, List.mem_append, List.not_mem_nil, or_false] at hz
  rcases hz with rfl | rfl | hz | rfl | rfl
  · omega
  · omega
  · exact h z hz
  · omega
  · omega

theorem set_mid (a b : List Nat) (x y : Nat) : (a ++ x :: b).set a.length y = (a ++ [y]) ++ b := by
  simp

/-- While the memory is filled. -/
def fillTo (m k : Nat) : List Nat := List.replicate k 10855845 ++ List.replicate (m - k) 0

theorem fillTo_set (m k : Nat) (h : k < m) : (fillTo m k).set k 10855845 = fillTo m (k + 1) := by
  unfold fillTo
  have e : m - k = (m - (k + 1)) + 1 := by omega
  rw [e, List.replicate_succ]
  have := set_mid (List.replicate k 10855845) (List.replicate (m - (k + 1)) 0) 0 10855845
  rw [List.length_replicate] at this
  rw [this, ← List.replicate_succ']

theorem fillTo_length (m k : Nat) (h : k ≤ m) : (fillTo m k).length = m := by
  simp [fillTo]; omega

/-- While the list is laid into it. -/
def lentTo (zs : List Nat) (k : Nat) : List Nat := 10855845 :: 10855845 :: (zs.take k ++ List.replicate (zs.length - k + 2) 10855845)

theorem lentTo_set (zs : List Nat) (k : Nat) (h : k < zs.length) : (lentTo zs k).set (k + 2) (zs.getD k 0) = lentTo zs (k + 1) := by
  unfold lentTo
  have e : zs.length - k + 2 = (zs.length - (k + 1) + 2) + 1 := by omega
  rw [e, List.replicate_succ]
  have := set_mid (zs.take k) (List.replicate (zs.length - (k + 1) + 2) 10855845) 10855845 (zs.getD k 0)
  have el : (zs.take k).length = k := by simp; omega
  rw [el] at this
  simp only [List.set_cons_succ]
  rw [this, take_snoc zs k h]

theorem lentTo_length (zs : List Nat) (k : Nat) (h : k ≤ zs.length) : (lentTo zs k).length = zs.length + 4 := by
  simp [lentTo]; omega

theorem lentTo_start (zs : List Nat) : lentTo zs 0 = fillTo (zs.length + 4) (zs.length + 4) := by
  simp [lentTo, fillTo, List.replicate_succ]

theorem lentTo_end (zs : List Nat) : lentTo zs zs.length = lent zs := by
  simp [lentTo, lent, List.replicate_succ]

theorem part_arg {w : World} {g : Nat} {zs : List Nat} (h : Blk w g (lent zs)) (hl : Limbs zs) (hf : zs.length ≤ 1125899906842000) : Arg w (.slice (some ⟨g, 2, none⟩) zs.length (zs.length + 2)) zs := by
  refine ⟨⟨_, _, rfl, by omega, by omega, .inr ⟨g, 2, rfl, fun k hk => ?_⟩⟩, hl, by omega, fun n c e => by cases e⟩
  rw [Nat.add_comm 2 k, h.cell (k + 2) (by rw [lent_length]; omega), lent_mid zs k hk]

theorem whole_arg {w : World} {g : Nat} {zs : List Nat} (h : Blk w g (lent zs)) (hl : Limbs zs) (hf : zs.length ≤ 1125899906842000) : Arg w (.slice (some ⟨g, 0, none⟩) (zs.length + 4) (zs.length + 4)) (lent zs) := by
  refine ⟨⟨_, _, by rw [lent_length], by rw [lent_length]; omega, by omega, .inr ⟨g, 0, rfl, fun k hk => ?_⟩⟩, lent_limbs hl, by rw [lent_length]; omega, fun n c e => by cases e⟩
  rw [Nat.zero_add, h.cell k hk]

set_option maxHeartbeats 800000 in
theorem lend_any (v : Value) (zs : List Nat) (w : World) (h : Arg w v zs) (hf : zs.length ≤ 35184372088000) :
    Calls Tryd.prog 8 #[v] w fun e w' => e = .returned (.tuple #[.slice (some ⟨w.heap.size, 0, none⟩) (zs.length + 4) (zs.length + 4), .slice (some ⟨w.heap.size, 2, none⟩) zs.length (zs.length + 2)]) ∧ Blk w' w.heap.size (lent zs) ∧ Below w.heap.size w w' := by
  obtain ⟨ao, cap, rfl, hcap, hmax, L1⟩ := h.form
  obtain ⟨i0, hi, hz0, hz1, hz2⟩ := info_parts Tryd.infoU
  clear h
  go_enter Tryd.func8, Tryd.ntmps8
  go_wp2_with (at_make; refine wpList_make_full _ rfl _ _ 22 rfl w.heap.size 38 i0 (.int .u64 0) 1 Tryd.underlying22 hi hz0 hz1 .i64 .i64 _ _ (zs.length + 4) rfl rfl (by omega) (by omega) (by rw [hz2]; omega) (by unfold maxLen; omega) (Nat.le_refl _) ?_; intro w1 hown hgrow)
  have hb1 := Blk.made hown
  have hbel : Below w.heap.size w w1 := (Below.refl _ _).grown hgrow (Nat.le_refl _) (fun k hk => by cases hk)
  clear hown hgrow hi hz0 hz1 hz2
  go_loopw [14] (fun i wr => ∃ k : Nat, k ≤ zs.length + 4 ∧ i = .int .i64 k ∧ Blk wr w.heap.size (fillTo (zs.length + 4) k) ∧ Below w.heap.size w wr) (fun i _ => zs.length + 4 - (intOf i).toNat)
  case atStart => exact ⟨0, Nat.zero_le _, rfl, hb1, hbel⟩
  case round =>
    obtain ⟨k, hk, rfl, hblk, hbl⟩ := hrel
    clear hb1 hbel
    by_cases hkl : k < zs.length + 4
    · have hfr := hblk.free k
      have hco := hblk.cell k (by rw [fillTo_length _ _ hk]; exact hkl)
      generalize (fillTo (zs.length + 4) k).getD k 0 = o at *
      have HB := hide (hblk.set k 10855845)
      have HL := hide (hbl.setCell (p := ⟨w.heap.size, k, none⟩) (Nat.le_refl _) (.int .u64 10855845))
      clear hblk hbl L1
      go_wp2
      go_roundw
      case rel => exact ⟨k + 1, by omega, by go_num, by rw [← fillTo_set _ _ hkl]; exact HB.out, HL.out⟩
      case measure => simp [intOf]; omega
    · have ek : k = zs.length + 4 := by omega
      subst ek
      have HB := hide hblk
      have HL := hide hbl
      clear hblk hbl
      go_wp2
      go_loopw [23] (fun i wr => ∃ k : Nat, k ≤ zs.length ∧ i = .int .i64 k ∧ Blk wr w.heap.size (lentTo zs k) ∧ Below w.heap.size w wr) (fun i _ => zs.length - (intOf i).toNat)
      case atStart => exact ⟨0, Nat.zero_le _, rfl, by rw [lentTo_start]; exact HB.out, HL.out⟩
      case round =>
        obtain ⟨k, hk, rfl, hblk, hbl⟩ := hrel
        clear HB HL
        by_cases hkl' : k < zs.length
        · rcases L1.below hbl with h0 | ⟨b, off, rfl, hcell⟩
          · simp [h0] at hkl'
          · have hck := hcell k hkl'
            have hbw := Lies.block (L1 : Lies w (some ⟨b, off, none⟩) zs) (by omega)
            have hne1 : ¬ b = w.heap.size := by omega
            have hne2 : ¬ w.heap.size = b := by omega
            have hfr := hblk.free (k + 2)
            have hco := hblk.cell (k + 2) (by rw [lentTo_length _ _ hk]; omega)
            generalize (lentTo zs k).getD (k + 2) 0 = o at *
            have HS := hide (lentTo_set zs k hkl')
            have HB := hide (fun z => hblk.set (k + 2) z)
            have HL := hide hbl
            generalize zs.getD k 0 = z at *
            clear hcell hblk hbl L1
            go_wp2
            go_roundw
            case rel => exact ⟨k + 1, by omega, by go_num, by rw [← HS.out]; exact HB.out z, HL.out.setCell (Nat.le_refl _) _⟩
            case measure => simp [intOf]; omega
        · have ek : k = zs.length := by omega
          subst ek
          rw [lentTo_end] at hblk
          have HB := hide hblk
          have HL := hide hbl
          have hi1 : (0 : Int) ≤ (zs.length : Int) := by omega
          clear hblk hbl L1
          go_wp2
          go_quiet (fail)
          go_wp2
          go_ret2
          exact ⟨rfl, HB.out, ((HL.out).trans ((Same.refl _).drewN _ |>.below _))⟩

set_option maxHeartbeats 800000 in
theorem kept_any (g : Nat) (va : Value) (zs : List Nat) (w : World) (hb : Blk w g (lent zs)) (ha : Arg w va zs) (hf : zs.length ≤ 35184372088000) :
    Calls Tryd.prog 13 #[.slice (some ⟨g, 0, none⟩) (zs.length + 4) (zs.length + 4), va] w fun e w' => e = .returned (.bool true) ∧ w' = w := by
  obtain ⟨ao, cap, rfl, hcap, hmax, L1⟩ := ha.form
  have hn : ((zs.length : Int) + 4 != (zs.length : Int) + 4) = false := by simp
  clear ha
  go_enter Tryd.func13, Tryd.ntmps13
  go_wp2
  go_loop [15] (fun i => ∃ k : Nat, k ≤ zs.length + 4 ∧ i = .int .i64 k) (fun i => zs.length + 4 - (intOf i).toNat)
  case atStart => exact ⟨0, Nat.zero_le _, rfl⟩
  case round =>
    obtain ⟨k, hk, rfl⟩ := hrel
    by_cases hkl : k < zs.length + 4
    · have hck := hb.cell k (by rw [lent_length]; exact hkl)
      by_cases h2 : k < 2
      · rw [lent_low zs k h2] at hck
        have i1 : (k : Int) < 2 := by omega
        clear hb L1
        go_wp2
        go_round
        case rel => exact ⟨k + 1, by omega, by go_num⟩
        case measure => simp [intOf]; omega
      · by_cases h3 : zs.length + 2 ≤ k
        · rw [lent_high zs k h3 hkl] at hck
          have hd1 : decide ((k : Int) < 2) = false := decide_eq_false (by omega)
          have i2 : (zs.length : Int) + 2 ≤ (k : Int) := by omega
          clear hb L1
          go_wp2
          go_round
          case rel => exact ⟨k + 1, by omega, by go_num⟩
          case measure => simp [intOf]; omega
        · obtain ⟨j, rfl⟩ : ∃ j, k = j + 2 := ⟨k - 2, by omega⟩
          rw [lent_mid zs j (by omega)] at hck
          rcases L1 with h0 | ⟨b, off, rfl, hcell⟩
          · simp [h0] at h3
          · have hcj := hcell j (by omega)
            generalize zs.getD j 0 = z at *
            have hne : ((z : Int) != (z : Int)) = false := by simp
            have i1 : ((j + 2 : Nat) : Int) = (j : Int) + 2 := by omega
            have hd1 : decide ((j : Int) + 2 < 2) = false := decide_eq_false (by omega)
            have hd2 : decide ((zs.length : Int) + 2 ≤ (j : Int) + 2) = false := decide_eq_false (by omega)
            have i3 : (j : Int) < (zs.length : Int) := by omega
            clear hb hcell
            go_wp2
            go_round
            case rel => exact ⟨j + 2 + 1, by omega, by go_num⟩
            case measure => simp [intOf]; omega
    · clear hb L1
      go_wp2
      go_ret
      exact ⟨rfl, rfl⟩

end Go.Proofs.YtmloigbacfllhaaDoor
