/- The document's Copy. -/
import Derived.Test.YtegbjdjpeblkoabGreatDoorQG
namespace Go.Proofs.YtegbjdjpeblkoabGreatDoor
open Go.RowKit
open Lm
attribute [local go_sem ↓] Go.wp_at_zero Go.wp_at_succ

/-- The first k are copied. -/
def copyTo (zs : List Nat) (k : Nat) : List Nat := zs.take k ++ List.replicate (zs.length - k) 0

theorem copyTo_length (zs : List Nat) (k : Nat) (h : k ≤ zs.length) : (copyTo zs k).length = zs.length := by
  simp [copyTo]; omega

theorem copyTo_set (zs : List Nat) (k : Nat) (h : k < zs.length) : (copyTo zs k).set k (zs.getD k 0) = copyTo zs (k + 1) := by
  apply List.ext_getElem?
  intro i
  have hl := copyTo_length zs k (by omega)
  rw [List.getElem?_set]
  by_cases hik : k = i
  · subst hik
    rw [if_pos rfl, hl, if_pos h]
    simp [copyTo, List.getElem?_append, List.getD, h]
    omega
  · rw [if_neg hik]
    simp only [copyTo, List.getElem?_append, List.length_take, List.getElem?_take, List.getElem?_replicate]
    have e1 : min k zs.length = k := by omega
    have e2 : min (k + 1) zs.length = k + 1 := by omega
    rw [e1, e2]
    by_cases h1 : i < k
    · rw [if_pos h1, if_pos h1, if_pos (by omega : i < k + 1), if_pos (by omega : i < k + 1)]
    · rw [if_neg h1, if_neg (by omega : ¬ i < k + 1)]
      by_cases h2 : i < zs.length
      · rw [if_pos (by omega), if_pos (by omega)]
      · rw [if_neg (by omega), if_neg (by omega)]

theorem copyTo_end (zs : List Nat) : copyTo zs zs.length = zs := by simp [copyTo]

set_option maxHeartbeats 1000000 in
theorem rcopy_any (v : Value) (zs : List Nat) (w : World) (h : Arg w v zs) (hf : zs.length ≤ 35184372088000) :
    Calls Tryz.prog 7 #[v] w fun e w' => e = .returned (.slice (some ⟨w.heap.size, 0, none⟩) zs.length zs.length) ∧ Blk w' w.heap.size zs ∧ Below w.heap.size w w' := by
  obtain ⟨ao, cap, rfl, hcap, hmax, L1⟩ := h.form
  obtain ⟨i0, hi, hz0, hz1, hz2⟩ := info_parts Tryz.infoU
  clear h
  go_enter Tryz.func7, Tryz.ntmps7
  go_wp2_with (at_make; refine wpList_make_full _ rfl _ _ 22 rfl w.heap.size 47 i0 (.int .u64 0) 1 Tryz.underlying22 hi hz0 hz1 .i64 .i64 _ _ zs.length rfl rfl (by omega) (by omega) (by rw [hz2]; omega) (by unfold maxLen; omega) (Nat.le_refl _) ?_; intro w1 hown hgrow)
  have hb1 := Blk.made hown
  have hbel : Below w.heap.size w w1 := (Below.refl _ _).grown hgrow (Nat.le_refl _) (fun k hk => by cases hk)
  clear hown hgrow hi hz0 hz1 hz2
  go_loopw [11] (fun i wr => ∃ k : Nat, k ≤ zs.length ∧ i = .int .i64 k ∧ Blk wr w.heap.size (copyTo zs k) ∧ Below w.heap.size w wr) (fun i _ => zs.length - (intOf i).toNat)
  case atStart => exact ⟨0, Nat.zero_le _, rfl, by simpa [copyTo] using hb1, hbel⟩
  case round =>
    obtain ⟨k, hk, rfl, hblk, hbl⟩ := hrel
    clear hb1 hbel
    by_cases hkl' : k < zs.length
    · rcases L1.below hbl with h0 | ⟨b, off, rfl, hcell⟩
      · simp [h0] at hkl'
      · have hck := hcell k hkl'
        have hbw := Lies.block (L1 : Lies w (some ⟨b, off, none⟩) zs) (by omega)
        have hne1 : ¬ b = w.heap.size := by omega
        have hne2 : ¬ w.heap.size = b := by omega
        have hfr := hblk.free k
        have hco := hblk.cell k (by rw [copyTo_length _ _ hk]; omega)
        generalize (copyTo zs k).getD k 0 = o at *
        have HS := hide (copyTo_set zs k hkl')
        have HB := hide (fun z => hblk.set k z)
        have HL := hide hbl
        generalize zs.getD k 0 = z at *
        clear hcell hblk hbl L1
        go_wp2
        go_roundw
        case rel => exact ⟨k + 1, by omega, by go_num, by rw [← HS.out]; exact HB.out z, HL.out.setCell (Nat.le_refl _) _⟩
        case measure => simp [intOf]; omega
    · have ek : k = zs.length := by omega
      subst ek
      rw [copyTo_end] at hblk
      have HB := hide hblk
      have HL := hide hbl
      clear hblk hbl
      go_wp2
      go_ret
      exact ⟨rfl, HB.out, HL.out⟩

end Go.Proofs.YtegbjdjpeblkoabGreatDoor
