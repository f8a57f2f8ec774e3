/- The document's Shift upwards. -/
import Derived.Test.YtppkhhbhnhijpaaGreatDoorQ9
import Derived.Test.YtppkhhbhnhijpaaGreatDoorQ3
import Derived.Test.YtppkhhbhnhijpaaGreatDoorQG
namespace Go.Proofs.YtppkhhbhnhijpaaGreatDoor
open Go.RowKit
open Lm
attribute [local go_sem ↓] Go.wp_at_zero Go.wp_at_succ

theorem zz_shift (b : Bool) (x n : Nat) : zz b (x * 2 ^ n) = zz b x * 2 ^ n := by cases b <;> simp [zz, Int.neg_mul]

set_option maxRecDepth 20000 in
set_option maxHeartbeats 1000000 in
theorem rzshift_any (b : Bool) (a : Option Addr) (m c : Nat) (z : Int) (n : Nat) (w : World) (hZ : Zn w (.agg #[.bool b, .slice a m c]) z) (hf : blen z.natAbs + n ≤ 1125899906840000) :
    Calls Tryz.prog 66 #[.agg #[.bool b, .slice a m c], .int .i64 n] w (ZnDone w (z * 2 ^ n)) := by
  obtain ⟨u, e1, hnum⟩ := hZ
  have e2 : b = decide (z < 0) ∧ .slice a m c = u := by
    have := congrArg Value.cells e1
    simp [Value.cells] at this
    exact this
  obtain ⟨hbz, rfl⟩ := e2
  obtain ⟨w0, hw0, hb0, h0, h1⟩ := enter2 w (.cells #[.bool b, .slice a m c] 43) (.cells #[.bool false, .slice none 0 0] 43)
  have gd : Below w.heap.size w w0.drew := hb0.drew
  have g0 : Below w0.drew.heap.size w0.drew w0.drew := Below.refl _ _
  have HR := rshl_any (.slice a m c) z.natAbs n w0.drew (hnum.below gd) hf
  have hzz : zz b (z.natAbs * 2 ^ n) = z * 2 ^ n := by rw [zz_shift, hbz, zz_self]
  have HMK := hide (fun (W : World) (v : Value) (h : Num W v (z.natAbs * 2 ^ n)) => show Calls Tryz.prog 88 #[.bool b, v] W (ZnDone W (z * 2 ^ n)) by have := rmake1_ok b v _ W h; rw [hzz] at this; exact this)
  have KS := hide (fun (W : World) (hg : Below w0.drew.heap.size w0.drew W) => show W.cell? ⟨w.heap.size, 0, none⟩ = some (.bool b) ∧ W.cell? ⟨w.heap.size, 1, none⟩ = some (.slice a m c) from duo (block_upW hg (show w0.drew.heap[w.heap.size]? = some (.cells #[.bool b, .slice a m c] 43) from h0)))
  have so : ∀ (W : World) (k : Nat) (u : Value) (k' : Nat), (W.setCell ⟨w.heap.size + 1, k, none⟩ u).cell? ⟨w.heap.size, k', none⟩ = W.cell? ⟨w.heap.size, k', none⟩ := fun W k u k' => cell_other8 (by omega)
  have HC1 := hide h1
  have HD := hide gd
  have hn0 : (0 : Int) ≤ (n : Int) := by omega
  clear gd h0 h1 hb0 hnum e1 hzz hbz
  generalize z * 2 ^ n = zs at *
  generalize z.natAbs * 2 ^ n = xs at *
  go_enter Tryz.func66, Tryz.ntmps66
  go_wp2
  go_region_held3 (fun w' => w'.cell? ⟨w.heap.size, 0, none⟩ = some (.bool b) ∧ w'.cell? ⟨w.heap.size, 1, none⟩ = some (.slice a m c)) (first | with_reducible exact KS.out _ g2 | with_reducible exact KS.out _ g1 | with_reducible exact KS.out _ g0 | (refine ⟨?_, ?_⟩ <;> (rw [so, so]; first | exact (KS.out _ g2).1 | exact (KS.out _ g2).2))) (first
    | (go_at_call 77; refine HR.mono ?_; rintro e' t1 ⟨⟨v1, rfl, N1⟩, g1⟩; obtain ⟨a1, n1, c1, rfl⟩ := N1.sl)
    | (go_at_call 88; refine (HMK.out t1 _ N1).mono ?_; rintro e' t2 ⟨⟨b2, a2, n2, c2, rfl, Z2⟩, hb2⟩; have g2 := bl_trans8 g1 hb2; have hz := block_upW g2 (show w0.drew.heap[w.heap.size + 1]? = some (.cells #[.bool false, .slice none 0 0] 43) from HC1.out); have hf2 := duof hz; obtain ⟨m0, m1⟩ := duo hz))
  have T3 := duo_all hz (a' := .bool b2) (b' := .slice a2 n2 c2)
  have T4 := below_duo (bl_trans8 HD.out g2) (g := w.heap.size + 1) (u0 := .bool b2) (u1 := .slice a2 n2 c2) (by omega)
  have T5 := Z2.duo (p1 := b2) (r1 := .slice a2 n2 c2) hz
  obtain ⟨p0, p1⟩ := duo T3
  have HE := hide (And.intro T5 T4)
  clear T3 T4 T5 so m0 m1 hf2 KS g0 g1 g2 hb2 HR hz N1 Z2 HMK
  generalize (t2.setCell ⟨w.heap.size + 1, 0, none⟩ (.bool b2)).setCell ⟨w.heap.size + 1, 1, none⟩ (.slice a2 n2 c2) = w5 at *
  go_wp2
  refine bodyPost_ret (v := .agg #[.bool b2, .slice a2 n2 c2]) (by simp [results, Tryz.results66, go_sem, p0, p1]) rfl ?_
  exact ⟨⟨_, _, _, _, rfl, HE.out.1⟩, HE.out.2⟩

end Go.Proofs.YtppkhhbhnhijpaaGreatDoor
