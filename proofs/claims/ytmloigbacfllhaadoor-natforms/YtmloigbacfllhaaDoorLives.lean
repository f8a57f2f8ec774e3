/- The document's examples, as every law asks them. -/
import Derived.Test.YtmloigbacfllhaaDoorNatC
import Derived.Test.YtmloigbacfllhaaDoorNatE
import Derived.Test.YtmloigbacfllhaaDoorPure4
namespace Go.Proofs.YtmloigbacfllhaaDoor
open Go.RowKit
open Lm

/-- A list literal of one limb. -/
theorem Blk.lit (w : World) (z : Nat) : Blk (w.alloc (.cells #[.int .u64 (z : Int)] 38)) w.heap.size [z] := by
  unfold Blk
  rw [heap_alloc_new]
  rfl

theorem Blk.arg {w : World} {g : Nat} {xs : List Nat} (h : Blk w g xs) (hl : Limbs xs) (hf : xs.length ≤ 1125899906842624) : Arg w (.slice (some ⟨g, 0, none⟩) xs.length xs.length) xs :=
  ⟨⟨_, _, rfl, Nat.le_refl _, by omega, .inr ⟨g, 0, rfl, fun k hk => by rw [Nat.zero_add]; exact h.cell k hk⟩⟩, hl, hf, fun n c e => by cases e⟩

theorem Arg.lit (w : World) (z : Nat) (hz : z < 18446744073709551616) : Arg (w.alloc (.cells #[.int .u64 (z : Int)] 38)) (.slice (some ⟨w.heap.size, 0, none⟩) 1 1) [z] :=
  (Blk.lit w z).arg (by intro y hy; simp at hy; omega) (by simp)

theorem Arg.alloc {w : World} {v : Value} {zs : List Nat} (h : Arg w v zs) (o : Obj) : Arg (w.alloc o) v zs := h.below ((Below.refl _ _).alloc (Nat.le_refl _) _)

theorem Ans.cells {w : World} {base : Nat} {v : Value} {zs : List Nat} (h : Ans w base v zs) (hz : zs ≠ []) : ∃ g cap, v = .slice (some ⟨g, 0, none⟩) zs.length cap ∧ g < w.heap.size ∧ zs.length ≤ cap ∧ ∀ k, k < zs.length → w.cell? ⟨g, k, none⟩ = some (.int .u64 ((zs.getD k 0 : Nat) : Int)) := by
  rcases h.form with ⟨_, h0⟩ | ⟨g, cap, hv, _, hg, hl, _, _, hc⟩
  · exact absurd h0 hz
  · exact ⟨g, cap, hv, hg, hl, hc⟩

theorem Arg.litI (w : World) (i : Int) (z : Nat) (h : i = (z : Int)) (hz : z < 18446744073709551616) : Arg (w.alloc (.cells #[.int .u64 i] 38)) (.slice (some ⟨w.heap.size, 0, none⟩) 1 1) [z] := by
  subst h; exact Arg.lit w z hz

theorem blen_255 : blen 255 = 8 := blen_eq 255 7 (by decide) (by decide)
theorem blen_W : blen 18446744073709551616 = 65 := blen_eq _ 64 (by decide) (by decide)

/-- The sum of the document's example is the list of 0 and 1. -/
theorem sum_lit {rs : List Nat} (hl : Limbs rs) (ht : tr rs = rs) (hv : val rs = 18446744073709551616) : rs = [0, 1] :=
  norm_inj rs [0, 1] hl (by intro z hz; simp at hz; omega) ht (by decide) (by rw [hv]; rfl)

set_option maxHeartbeats 800000 in
theorem lives_any (w : World) : Calls Tryd.prog 26 #[] w fun e w' => e = .returned (.bool true) ∧ Below w.heap.size w w' := by
  go_enter Tryd.func26, Tryd.ntmps26
  go_wp2_with fail
  have hA := (Arg.litI w 18446744073709551615 18446744073709551615 rfl (by omega)).alloc (.cells #[.int .u64 1] 38)
  have hB := Arg.litI (w.alloc (.cells #[.int .u64 18446744073709551615] 38)) 1 1 rfl (by omega)
  rw [show (w.alloc (.cells #[.int .u64 18446744073709551615] 38)).heap.size = w.heap.size + 1 by simp] at hB
  refine (add_any _ _ _ _ _ hA hB (by simp) (by simp)).mono ?_
  rintro e w1 ⟨hbel, v, c, rs, rfl, hans, hcase⟩
  clear hA hB
  have e1 : val [18446744073709551615] + val [1] = 18446744073709551616 := rfl
  rw [e1, blen_W] at hcase
  rcases hcase with ⟨rfl, hv, ht, _⟩ | ⟨_, _, hbad⟩
  · have hrs := sum_lit hans.limbs ht hv
    subst hrs
    obtain ⟨g, cap, rfl, hg, hcap, hcell⟩ := hans.cells (by simp)
    have hc0 : w1.cell? ⟨g, 0, none⟩ = some (.int .u64 0) := hcell 0 (by simp)
    have hc1 : w1.cell? ⟨g, 1, none⟩ = some (.int .u64 1) := hcell 1 (by simp)
    have HBel : Hid (Below w.heap.size w w1) := ((Below.refl _ _).alloc (Nat.le_refl _) _ |>.alloc (by simp) _).trans (hbel.mono (by simp; omega))
    clear hbel hans hcell e1 hv ht
    go_wp2_with fail
    have hA := (Arg.litI w1 5 5 rfl (by omega)).alloc (.cells #[.int .u64 7] 38)
    have hB := Arg.litI (w1.alloc (.cells #[.int .u64 5] 38)) 7 7 rfl (by omega)
    rw [show (w1.alloc (.cells #[.int .u64 5] 38)).heap.size = w1.heap.size + 1 by simp] at hB
    refine (sub_any _ _ _ _ _ hA hB (by simp)).mono ?_
    rintro e w2 ⟨hbel, hcase⟩
    clear hA hB
    rcases hcase with ⟨_, rfl⟩ | ⟨hbad, _⟩
    · have hb2 : Below w1.heap.size w1 w2 := ((Below.refl _ _).alloc (Nat.le_refl _) _ |>.alloc (by simp) _).trans (hbel.mono (by simp; omega))
      have hd0 : w2.cell? ⟨g, 0, none⟩ = some (.int .u64 0) := by rw [hb2.cell (p := ⟨g, 0, none⟩) hg]; exact hc0
      have hd1 : w2.cell? ⟨g, 1, none⟩ = some (.int .u64 1) := by rw [hb2.cell (p := ⟨g, 1, none⟩) hg]; exact hc1
      have HB2 : Hid (Below w.heap.size w w2) := HBel.out.trans (hb2.mono HBel.out.size)
      clear hbel hb2 hc0 hc1 HBel hg
      go_wp2_with fail
      have hL := length_val _ _ _ (Arg.litI w2 255 255 rfl (by omega))
      rw [show val [255] = 255 from rfl, blen_255] at hL
      refine hL.mono ?_
      rintro e w3 ⟨rfl, rfl⟩
      go_wp2
      go_ret
      exact ⟨rfl, HB2.out.alloc HB2.out.size _⟩
    · exact absurd hbad (by decide)
  · omega

end Go.Proofs.YtmloigbacfllhaaDoor
