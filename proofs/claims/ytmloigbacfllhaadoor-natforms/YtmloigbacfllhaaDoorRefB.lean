/- The reference's numbers: Of. -/
import Derived.Test.YtmloigbacfllhaaDoorRefA
namespace Go.Proofs.YtmloigbacfllhaaDoor
open Go.RowKit
open Lm

theorem news_cells {w : World} (l : List Nat) (j : Nat) (u : Value) (hj : (l.map lv)[j]? = some u) : (w.alloc (.cells (l.map lv).toArray 38)).cell? ((⟨w.heap.size, 0, none⟩ : Addr).add j) = some u := by
  have e : (⟨w.heap.size, 0, none⟩ : Addr).add j = ⟨w.heap.size, j, none⟩ := by
    unfold Addr.add; split <;> simp_all
  rw [e]
  simp only [World.cell?, heap_alloc_new]
  simpa using hj

theorem lv_oneCell (zs : List Nat) : ∀ u ∈ zs.map lv, u.oneCell' = true := by
  intro u hu
  obtain ⟨z, _, rfl⟩ := List.mem_map.1 hu
  rfl

set_option maxHeartbeats 800000 in
theorem of_any (v : Value) (zs : List Nat) (w : World) (h : Arg w v zs) (hf : zs.length ≤ 17592186044416) :
    Calls Tryd.prog 9 #[v] w fun e w' => (∃ v', e = .returned v' ∧ Num w' v' (val zs)) ∧ Below w.heap.size w w' := by
  obtain ⟨ao, cap, rfl, hcap, hmax, L1⟩ := h.form
  have M1 := h.limbs
  obtain ⟨i0, hi, hz0, hz1, hz2⟩ := info_parts Tryd.infoU
  clear h
  go_enter Tryd.func9, Tryd.ntmps9
  go_wp2_with (at_make; refine wpList_make_own _ rfl _ _ 26 rfl w.heap.size 38 i0 (.int .u64 0) 1 Tryd.underlying26 hi hz0 hz1 .i64 .i64 _ (2 * zs.length) rfl rfl (by omega) (by rw [hz2]; omega) (by unfold maxLen; omega) (Nat.le_refl _) ?_; intro w1 hown hgrow)
  have hbel : Below w.heap.size w w1 := (Below.refl _ _).grown hgrow (Nat.le_refl _) (fun k hk => by cases hk)
  have hsz : w.heap.size < w1.heap.size := by
    have := hown.lt w.heap.size rfl
    exact this.2
  clear hgrow hz0 hz2
  go_loopw [3, 12] (fun o i wr => ∃ k : Nat, k ≤ zs.length ∧ i = .int .i64 k ∧ o = .slice (some ⟨w.heap.size, 0, none⟩) (2 * k) (2 * zs.length) ∧ wr.ownsRow w.heap.size 38 1 (.slice (some ⟨w.heap.size, 0, none⟩) (2 * k) (2 * zs.length)) (2 * k) ((halves (zs.take k)).map lv) ∧ Below w.heap.size w wr) (fun _ i _ => zs.length - (intOf i).toNat)
  case atStart => exact ⟨0, Nat.zero_le _, rfl, rfl, hown, hbel⟩
  case round =>
    obtain ⟨k, hk, rfl, rfl, ho, hbl⟩ := hrel
    clear hown hbel
    by_cases hkl : k < zs.length
    · rcases L1.below hbl with h0 | ⟨b, off, rfl, hcell⟩
      · simp [h0] at hkl
      · have hck := hcell k hkl
        have z1 := limb_lt M1 k
        have HT := hide (halves_take zs k hkl)
        generalize zs.getD k 0 = z at *
        have e1 : (z : Int) % 4294967296 = ((z % 4294967296 : Nat) : Int) := by omega
        have e2 : (z : Int) / 4294967296 = ((z / 4294967296 : Nat) : Int) := by omega
        have b1 : z % 4294967296 < 4294967296 := by omega
        have b2 : z / 4294967296 < 4294967296 := by omega
        generalize z % 4294967296 = lo at *
        generalize z / 4294967296 = hh at *
        have HB := hide hbl
        clear hcell L1 M1 hbl
        go_wp2_with (at_builtin; refine wpList_append_fits _ rfl _ _ 26 rfl w.heap.size 38 i0 1 Tryd.underlying26 hi hz1 w.heap.size (2 * k) (2 * zs.length) _ rfl (ho.alloc _) ⟨wr.heap.size, 0, none⟩ 2 2 ([lo, hh].map lv) rfl rfl (news_cells [lo, hh]) (lv_oneCell _) (by omega) ?_; intro w2 hown2 hgrow2)
        have HO := hide hown2
        have HB2 := hide ((HB.out.alloc HB.out.size (.cells ([lo, hh].map lv).toArray 38)).grown hgrow2 (by have := HB.out.size; simp; omega) (fun k hk => by cases hk; exact Nat.le_refl _))
        clear hown2 hgrow2 ho hck
        go_wp2
        go_roundw
        case rel =>
          refine ⟨k + 1, by omega, by go_num, rfl, ?_, HB2.out⟩
          rw [HT.out, List.map_append]
          exact HO.out
        case measure => simp [intOf]; omega
    · have ek : k = zs.length := by omega
      subst ek
      rw [List.take_length] at ho
      have el := halves_length zs
      have hA : Ans wr w.heap.size (.slice (some ⟨w.heap.size, 0, none⟩) (2 * zs.length) (2 * zs.length)) (halves zs) := ⟨by rw [el]; exact ho, digs_limbs (halves_digs M1)⟩
      have H := norm_any _ _ _ (hA.arg (by omega)) (halves_digs M1) (by omega)
      rw [halves_val] at H
      have HB := hide hbl
      clear ho hA hbl L1 M1
      go_wp2_with fail
      refine H.mono ?_
      rintro e w2 ⟨⟨v', rfl, hnum⟩, rfl⟩
      have HN := hide hnum
      clear hnum H
      go_wp2
      go_ret
      exact ⟨⟨v', rfl, HN.out⟩, HB.out⟩

end Go.Proofs.YtmloigbacfllhaaDoor
