/- The document's Of, once more: its limbs are new. -/
import Derived.Test.YtlengglmnbpkbaaDoorQ2
import Derived.Test.YtlengglmnbpkbaaDoorRefN2Z
namespace Go.Proofs.YtlengglmnbpkbaaDoor
open Go.RowKit
open Lm
attribute [local go_sem ↓] Go.wp_at_zero Go.wp_at_succ


def ZnNew (w : World) (z : Int) (e : Ending) (w' : World) : Prop := (∃ b a n k, e = .returned (.agg #[.bool b, .slice a n k]) ∧ Zn w' (.agg #[.bool b, .slice a n k]) z ∧ New w.heap.size (.slice a n k)) ∧ Below w.heap.size w w'

set_option maxHeartbeats 1000000 in
theorem rmake1_new (b : Bool) (u : Value) (x : Nat) (w : World) (h : Num w u x) :
    Calls Tryd.prog 39 #[.bool b, u] w fun e w' => (∃ v, e = .returned v ∧ Zn w' v (zz b x) ∧ ∃ bb, v = .agg #[.bool bb, u]) ∧ Below w.heap.size w w' := by
  obtain ⟨a, n, c, rfl⟩ := h.sl
  cases b
  · have HB := hide (below_one6 w (.cells #[.bool false, .slice a n c] 44))
    have HN := hide (h.below HB.out)
    clear h
    go_enter Tryd.func39, Tryd.ntmps39
    go_wp2
    go_returns
    exact ⟨⟨_, rfl, ⟨.slice a n c, by simp [zz], by rw [zz_abs]; exact HN.out⟩, _, rfl⟩, HB.out⟩
  · obtain ⟨w0, hw0⟩ : ∃ w0, w.alloc (.cells #[.bool false, .slice none 0 0] 44) = w0 := ⟨_, rfl⟩
    have hb0 : Below w.heap.size w w0 := by rw [← hw0]; exact below_one6 _ _
    have h0 : w0.heap[w.heap.size]? = some (.cells #[.bool false, .slice none 0 0] 44) := by rw [← hw0]; exact heap_alloc_new ..
    have hf0 := duof h0
    obtain ⟨k0, k1⟩ := duo h0
    have HZ := zero_any _ x w0 (h.below hb0)
    obtain ⟨t, ht⟩ : ∃ t : Bool, (!(x == 0)) = t := ⟨_, rfl⟩
    have hzt := zz_nat true x
    rw [Bool.true_and, ht] at hzt
    have ht2 : (x == 0) = !t := by rw [← ht, Bool.not_not]
    rw [ht2] at HZ
    have HN := hide h
    have HB0 := hide hb0
    have HBX := hide h0
    have HZT := hide hzt
    clear h hb0 h0 ht ht2 hzt
    go_enter Tryd.func39, Tryd.ntmps39
    go_wp2_with fail
    refine HZ.mono ?_
    rintro e wn ⟨rfl, hw⟩; rw [hw]; clear hw wn HZ
    go_wp2
    have R5 := duo_all HBX.out (a' := .bool t) (b' := .slice a n c)
    have HD := hide (below_duo HB0.out (g := w.heap.size) (u0 := .bool t) (u1 := .slice a n c) (Nat.le_refl _))
    generalize (w0.setCell ⟨w.heap.size, 0, none⟩ (.bool t)).setCell ⟨w.heap.size, 1, none⟩ (.slice a n c) = w5 at *
    obtain ⟨q0, q1⟩ := duo R5
    refine bodyPost_ret (v := .agg #[.bool t, .slice a n c]) (by simp [results, Tryd.results39, go_sem, q0, q1]) rfl ?_
    exact ⟨⟨_, rfl, ⟨_, by rw [HZT.out], by rw [zz_abs]; exact HN.out.below HD.out⟩, _, rfl⟩, HD.out⟩

set_option maxHeartbeats 1000000 in
theorem rzof_new (b : Bool) (v : Value) (X : List Nat) (w : World) (hA : Arg w v X) (hf : X.length ≤ 17592186044416) :
    Calls Tryd.prog 15 #[.bool b, v] w (ZnNew w (zz b (val X))) := by
  obtain ⟨a, n, rfl, _, _, _⟩ := hA.form
  obtain ⟨w0, hw0, hb0, hx0⟩ := enter1 w (.cells #[.bool false, .slice none 0 0] 44)
  have HO := of_new _ X w0 (hA.below hb0) hf
  have HB0 := hide hb0
  have HX0 := hide hx0
  clear hA hb0 hx0
  go_enter Tryd.func15, Tryd.ntmps15
  go_wp2_with fail
  refine HO.mono ?_
  rintro e w1 ⟨⟨v1, rfl, hn, hnew⟩, hb1⟩
  have HM := rmake1_new b v1 (val X) w1 hn
  have HNW := hide (hnew.mono HB0.out.size)
  clear hnew
  have HW1 := hide hb1
  obtain ⟨a1, n1, k1, rfl⟩ := hn.sl
  clear hn hb1 HO
  go_wp2_with fail
  refine HM.mono ?_
  rintro e w2 ⟨⟨v9, rfl, hzn, b1, rfl⟩, hb2⟩
  have HZN := hide hzn
  have HW := hide (HW1.out.trans (hb2.mono HW1.out.size))
  clear hzn hb2 HM hw0
  have hbx := block_upW HW.out HX0.out
  have hf1 := duof hbx
  obtain ⟨l0, l1⟩ := duo hbx
  have HBX := hide hbx
  have HBE := hide (HB0.out.trans (HW.out.mono HB0.out.size))
  clear hbx
  go_wp2
  have R5 := duo_all HBX.out (a' := .bool b1) (b' := .slice a1 n1 k1)
  have HD := hide (And.intro (HZN.out.duo (p1 := b1) (r1 := .slice a1 n1 k1) HBX.out) (below_duo HBE.out (g := w.heap.size) (u0 := .bool b1) (u1 := .slice a1 n1 k1) (by omega)))
  generalize (w2.setCell ⟨w.heap.size, 0, none⟩ (.bool b1)).setCell ⟨w.heap.size, 1, none⟩ (.slice a1 n1 k1) = w5 at *
  obtain ⟨q0, q1⟩ := duo R5
  refine bodyPost_ret (v := .agg #[.bool b1, .slice a1 n1 k1]) (by simp [results, Tryd.results15, go_sem, q0, q1]) rfl ?_
  exact ⟨⟨_, _, _, _, rfl, HD.out.1, HNW.out⟩, HD.out.2⟩

end Go.Proofs.YtlengglmnbpkbaaDoor
