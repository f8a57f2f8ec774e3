/- Package dyadic: Length; the document's Top. -/
import Derived.Test.YtlengglmnbpkbaaDoorDyOZ
namespace Go.Proofs.YtlengglmnbpkbaaDoor
open Go.RowKit
open Lm
attribute [local go_sem ↓] Go.wp_at_zero Go.wp_at_succ

noncomputable def lenV (z ex : Int) : Int := if fitE ex then ((blen (od z.natAbs) : Nat) : Int) else 0
noncomputable def lenC (ex : Int) : Int := if fitE ex then 0 else 80

theorem len_tail (x : Nat) : ((blen x : Nat) : Int) - (tl x : Int) = ((blen (od x) : Nat) : Int) := by
  by_cases h : x = 0
  · subst h
    rw [od_zero]
    have h1 : blen 0 = 0 := rfl
    have h2 : tl 0 = 0 := by simp [tl]
    rw [h1, h2]; rfl
  · have := od_blen h; omega

set_option maxRecDepth 20000 in
set_option maxHeartbeats 1000000 in
theorem yLength_any (b : Bool) (a : Option Addr) (c : Nat) (X : List Nat) (ex : Int) (w : World) (hT : Tab w) (hA : Arg w (.slice a X.length c) X) :
    Calls Tryd.prog 19 #[.agg #[.bool b, .slice a X.length c, .int .i64 ex]] w fun e w' => e = .returned (.tuple #[.int .i64 (lenV (zz b (val X)) ex), .int .i64 (lenC ex)]) ∧ Below w.heap.size w w' := by
  obtain ⟨w0, hw0, hb0, h0⟩ := enter1 w (.cells #[.bool b, .slice a X.length c, .int .i64 ex] 33)
  obtain ⟨k0, k1, k2⟩ := tri8 h0
  have HB := hide hb0
  by_cases hE : fitE ex = true
  · have HP := yseen_ok b a c X ex w0 (hA.below hb0) hE
    have hAT : Arg w (.slice a (tr X).length c) (tr X) := hA.trim
    have HLN := hide (fun (W : World) (hg : Below w.heap.size w W) => ylen_any b a c (tr X) W (hAT.below hg))
    have HTL := hide (fun (W : World) (hg : Below w.heap.size w W) => tail_any (.slice a (tr X).length c) (tr X) W (hAT.below hg) (hT.below hg))
    rw [show lenV (zz b (val X)) ex = ((blen (val (tr X)) : Nat) : Int) - (tl (val (tr X)) : Int) by unfold lenV; rw [if_pos hE, zz_abs, val_tr, len_tail], show lenC ex = 0 by unfold lenC; rw [if_pos hE]]
    have htl := tl_le (val (tr X))
    have wk : IntKind.i64.wrap (((blen (val (tr X)) : Nat) : Int) - (tl (val (tr X)) : Int)) = ((blen (val (tr X)) : Nat) : Int) - (tl (val (tr X)) : Int) := by
      have h5 := blen_len8 hAT.limbs
      have h6 := hAT.few
      rw [IntKind.wrap_i64]; omega
    have HTT : Hid (∀ t : Nat, (val (tr X) = 0 → t = 0) → (val (tr X) ≠ 0 → IsTail (val (tr X)) t) → t = tl (val (tr X))) := hide (by
      intro t h1 h2
      by_cases h : val (tr X) = 0
      · rw [h1 h, h]; simp [tl]
      · exact (tl_of (h2 h)).symm)
    generalize blen (val (tr X)) = l at *
    clear h0 hb0 hA hAT hE hT htl
    go_enter Tryd.func19, Tryd.ntmps19
    go_wp2_with fail
    refine HP.mono ?_
    rintro e t1 ⟨rfl, g1⟩
    obtain ⟨w4, hw4, hb4, h4⟩ := enter1 t1 (.cells #[.bool b, .slice a (tr X).length c, .int .i64 ex] 69)
    have gd : Below w.heap.size w w4.drew := (bl_trans8 (bl_trans8 HB.out g1) hb4).drew
    have g0 : Below w4.drew.heap.size w4.drew w4.drew := Below.refl _ _
    have KS := hide (fun (W : World) (hg : Below w4.drew.heap.size w4.drew W) => show W.cell? ⟨t1.heap.size, 0, none⟩ = some (.bool b) ∧ W.cell? ⟨t1.heap.size, 1, none⟩ = some (.slice a (tr X).length c) ∧ W.cell? ⟨t1.heap.size, 2, none⟩ = some (.int .i64 ex) from tri8 (block_upW hg (show w4.drew.heap[t1.heap.size]? = some (.cells #[.bool b, .slice a (tr X).length c, .int .i64 ex] 69) from h4)))
    have HL := HLN.out w4.drew gd
    have HGD := hide gd
    have HTQ := hide (fun (W : World) (hg : Below w4.drew.heap.size w4.drew W) => HTL.out W (bl_trans8 HGD.out hg))
    obtain ⟨x0, x1, x2⟩ := KS.out _ g0
    clear g1 hb4 h4 HP HLN HTL gd
    go_wp2
    go_region_held3 (fun w' => w'.cell? ⟨t1.heap.size, 0, none⟩ = some (.bool b) ∧ w'.cell? ⟨t1.heap.size, 1, none⟩ = some (.slice a (tr X).length c) ∧ w'.cell? ⟨t1.heap.size, 2, none⟩ = some (.int .i64 ex)) (first | with_reducible exact KS.out _ g2 | with_reducible exact KS.out _ g0) (first
      | (go_at_call 46; refine HL.mono ?_; rintro e' t2 ⟨rfl, g2⟩)
      | (go_at_call 47; refine (HTQ.out t2 g2).mono ?_; rintro e' wn ⟨⟨t, _, rfl, q1, q2⟩, hw⟩; rw [hw]; have hq := HTT.out t q1 q2; clear hw wn q1 q2; subst hq))
    have HE := hide (bl_trans8 HGD.out g2)
    clear g2 g0 KS HL HTQ
    go_wp2
    go_ret2
    exact ⟨rfl, HE.out⟩
  · have hE2 : fitE ex = false := by simpa using hE
    have HP := yseen_no b a X.length c ex w0 hE2
    rw [show lenV (zz b (val X)) ex = 0 by unfold lenV; rw [if_neg hE], show lenC ex = 80 by unfold lenC; rw [if_neg hE]]
    clear h0 hb0 hA hE hE2
    go_enter Tryd.func19, Tryd.ntmps19
    go_wp2_with fail
    refine HP.mono ?_
    rintro e t1 ⟨he, g1⟩
    obtain ⟨fb, fa, fn, fc, fe, rfl⟩ : ∃ fb fa fn fc fe, e = .returned (.tuple #[.agg #[.bool fb, .slice fa fn fc, .int .i64 fe], .int .i64 80]) := ⟨_, _, _, _, _, he⟩
    clear he
    obtain ⟨w4, hw4, hb4, h4⟩ := enter1 t1 (.cells #[.bool fb, .slice fa fn fc, .int .i64 fe] 69)
    have HG := hide (bl_trans8 (bl_trans8 HB.out g1) hb4)
    clear g1 hb4 h4 HP
    go_wp2
    go_ret2
    exact ⟨rfl, HG.out⟩

set_option maxRecDepth 20000 in
set_option maxHeartbeats 1000000 in
theorem rdTop_any (b : Bool) (a : Option Addr) (n c : Nat) (M E : Int) (w : World) (h : Dn w b (.slice a n c) M) (hbl : blen M.natAbs ≤ 2251799813685248) (h1 : -2305843009213693952 ≤ E) (h2 : E ≤ 2305843009213693952) :
    Calls Tryd.prog 27 #[.agg #[.bool b, .slice a n c, .int .i64 E]] w fun e w' => e = .returned (.int .i64 (((blen M.natAbs : Nat) : Int) - 1 + E)) ∧ Below w.heap.size w w' := by
  obtain ⟨w0, hw0, hb0, h0⟩ := enter1 w (.cells #[.bool b, .slice a n c, .int .i64 E] 47)
  have gd : Below w.heap.size w w0.drew := hb0.drew
  have g0 : Below w0.drew.heap.size w0.drew w0.drew := Below.refl _ _
  have KS := hide (fun (W : World) (hg : Below w0.drew.heap.size w0.drew W) => show W.cell? ⟨w.heap.size, 0, none⟩ = some (.bool b) ∧ W.cell? ⟨w.heap.size, 1, none⟩ = some (.slice a n c) ∧ W.cell? ⟨w.heap.size, 2, none⟩ = some (.int .i64 E) from tri8 (block_upW hg (show w0.drew.heap[w.heap.size]? = some (.cells #[.bool b, .slice a n c, .int .i64 E] 47) from h0)))
  have HL := len_any _ M.natAbs w0.drew (h.2.below gd)
  have w1 : IntKind.i64.wrap (((blen M.natAbs : Nat) : Int) - 1) = ((blen M.natAbs : Nat) : Int) - 1 := by rw [IntKind.wrap_i64]; omega
  have w2 : IntKind.i64.wrap (((blen M.natAbs : Nat) : Int) - 1 + E) = ((blen M.natAbs : Nat) : Int) - 1 + E := by rw [IntKind.wrap_i64]; omega
  generalize blen M.natAbs = l at *
  have HB := hide gd
  obtain ⟨x0, x1, x2⟩ := KS.out _ g0
  clear h0 hb0 gd h
  generalize hs1 : (l : Int) - 1 = s1 at *
  have hs2 : (l : Int) - 1 = s1 := hs1
  clear hs1
  go_enter Tryd.func27, Tryd.ntmps27
  go_wp2
  go_region_held3 (fun w' => w'.cell? ⟨w.heap.size, 0, none⟩ = some (.bool b) ∧ w'.cell? ⟨w.heap.size, 1, none⟩ = some (.slice a n c) ∧ w'.cell? ⟨w.heap.size, 2, none⟩ = some (.int .i64 E)) (first | with_reducible exact KS.out _ g0) (first
    | (go_at_call 28; refine HL.mono ?_; rintro e' wn ⟨rfl, hw⟩; rw [hw]; clear hw wn))
  have HE := hide HB.out
  clear g0 KS HL
  go_wp2
  go_ret
  exact ⟨rfl, HE.out⟩

end Go.Proofs.YtlengglmnbpkbaaDoor
