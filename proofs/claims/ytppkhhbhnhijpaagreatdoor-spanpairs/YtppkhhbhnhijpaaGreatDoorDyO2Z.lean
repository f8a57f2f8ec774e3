/- Package dyadic: Length; the document's Top. -/
import Derived.Test.YtppkhhbhnhijpaaGreatDoorDyOZ
namespace Go.Proofs.YtppkhhbhnhijpaaGreatDoor
open Go.RowKit
open Lm
attribute [local go_sem ↓] Go.wp_at_zero Go.wp_at_succ

noncomputable def lenV (z ex : Int) : Int := if fitE ex then ((blen (od z.natAbs) : Nat) : Int) else 0
noncomputable def lenC (ex : Int) : Int := if fitE ex then 0 else 80

theorem len_tail (x : Nat) : ((blen x : Nat) : Int) - (tl x : Int) = ((blen (od x) : Nat) : Int) := by
  by_cases h : x = 0
  · subst h
    rw [od_zero]
    have h1 : blen 0 = 0 := rfl
    have h2 : tl 0 = 0 := by simp [tl]
    rw [h1, h2]; rfl
  · have := od_blen h; omega

set_option maxRecDepth 20000 in
set_option maxHeartbeats 1000000 in
theorem rdTop_any (b : Bool) (a : Option Addr) (n c : Nat) (M E : Int) (w : World) (h : Dn w b (.slice a n c) M) (hbl : blen M.natAbs ≤ 2251799813685248) (h1 : -2305843009213693952 ≤ E) (h2 : E ≤ 2305843009213693952) :
    Calls Tryz.prog 64 #[.agg #[.bool b, .slice a n c, .int .i64 E]] w fun e w' => e = .returned (.int .i64 (((blen M.natAbs : Nat) : Int) - 1 + E)) ∧ Below w.heap.size w w' := by
  obtain ⟨w0, hw0, hb0, h0⟩ := enter1 w (.cells #[.bool b, .slice a n c, .int .i64 E] 45)
  have gd : Below w.heap.size w w0.drew := hb0.drew
  have g0 : Below w0.drew.heap.size w0.drew w0.drew := Below.refl _ _
  have KS := hide (fun (W : World) (hg : Below w0.drew.heap.size w0.drew W) => show W.cell? ⟨w.heap.size, 0, none⟩ = some (.bool b) ∧ W.cell? ⟨w.heap.size, 1, none⟩ = some (.slice a n c) ∧ W.cell? ⟨w.heap.size, 2, none⟩ = some (.int .i64 E) from tri8 (block_upW hg (show w0.drew.heap[w.heap.size]? = some (.cells #[.bool b, .slice a n c, .int .i64 E] 45) from h0)))
  have HL := len_any _ M.natAbs w0.drew (h.2.below gd)
  have w1 : IntKind.i64.wrap (((blen M.natAbs : Nat) : Int) - 1) = ((blen M.natAbs : Nat) : Int) - 1 := by rw [IntKind.wrap_i64]; omega
  have w2 : IntKind.i64.wrap (((blen M.natAbs : Nat) : Int) - 1 + E) = ((blen M.natAbs : Nat) : Int) - 1 + E := by rw [IntKind.wrap_i64]; omega
  generalize blen M.natAbs = l at *
  have HB := hide gd
  obtain ⟨x0, x1, x2⟩ := KS.out _ g0
  clear h0 hb0 gd h
  generalize hs1 : (l : Int) - 1 = s1 at *
  have hs2 : (l : Int) - 1 = s1 := hs1
  clear hs1
  go_enter Tryz.func64, Tryz.ntmps64
  go_wp2
  go_region_held3 (fun w' => w'.cell? ⟨w.heap.size, 0, none⟩ = some (.bool b) ∧ w'.cell? ⟨w.heap.size, 1, none⟩ = some (.slice a n c) ∧ w'.cell? ⟨w.heap.size, 2, none⟩ = some (.int .i64 E)) (first | with_reducible exact KS.out _ g0) (first
    | (go_at_call 76; refine HL.mono ?_; rintro e' wn ⟨rfl, hw⟩; rw [hw]; clear hw wn))
  have HE := hide HB.out
  clear g0 KS HL
  go_wp2
  go_ret
  exact ⟨rfl, HE.out⟩

end Go.Proofs.YtppkhhbhnhijpaaGreatDoor
