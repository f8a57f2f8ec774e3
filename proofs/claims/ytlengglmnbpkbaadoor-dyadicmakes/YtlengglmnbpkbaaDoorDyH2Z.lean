/- The document's Of of dyadics, once more: its limbs are new. -/
import Derived.Test.YtlengglmnbpkbaaDoorQ9
import Derived.Test.YtlengglmnbpkbaaDoorRefN2Z
namespace Go.Proofs.YtlengglmnbpkbaaDoor
open Go.RowKit
open Lm
attribute [local go_sem ↓] Go.wp_at_zero Go.wp_at_succ

def DnNew (w : World) (M E : Int) (e : Ending) (w' : World) : Prop := (∃ b a n k, e = .returned (.agg #[.bool b, .slice a n k, .int .i64 E]) ∧ Dn w' b (.slice a n k) M ∧ New w.heap.size (.slice a n k)) ∧ Below w.heap.size w w'

set_option maxRecDepth 20000 in
set_option maxHeartbeats 1000000 in
theorem rdOf_new (b : Bool) (a : Option Addr) (n c : Nat) (z ex : Int) (w : World) (hZ : Zn w (.agg #[.bool b, .slice a n c]) z) (hbl : blen z.natAbs ≤ 1125899906840000) (h1 : -4611686018427387904 ≤ ex) (h2 : ex ≤ 4611686018427387904) :
    Calls Tryd.prog 16 #[.agg #[.bool b, .slice a n c], .int .i64 ex] w (DnNew w (omz z) (oe z ex)) := by
  obtain ⟨w0, hw0, hb0, h0, h1'⟩ := enter2 w (.cells #[.bool b, .slice a n c] 44) (.cells #[.bool false, .slice none 0 0, .int .i64 0] 47)
  obtain ⟨k0, k1⟩ := duo h0
  have HS := rzsign_any _ z w0 (hZ.below hb0)
  have H0 := hide h0
  have H1 := hide h1'
  have HB := hide hb0
  obtain ⟨u, e1, hnum⟩ := hZ
  have e2 : b = decide (z < 0) ∧ .slice a n c = u := by
    have := congrArg Value.cells e1
    simp [Value.cells] at this
    exact this
  obtain ⟨hbz, rfl⟩ := e2
  have HNU := hide hnum
  clear h0 h1' hb0 e1 hnum
  by_cases hz : z = 0
  · subst hz
    have hom : omz 0 = 0 := omz_zero
    have hoe : oe 0 ex = 0 := by simp [oe]
    rw [hom, hoe]
    rw [show Int.sign 0 = 0 from rfl] at HS
    clear hom hoe hbz HNU
    go_enter Tryd.func16, Tryd.ntmps16
    go_wp2_with fail
    refine HS.mono ?_
    rintro e t1 ⟨rfl, g1⟩
    have HC1 := hide (block_upW g1 H1.out)
    have HG := hide (bl_trans8 HB.out g1)
    have hf1 := tri8f HC1.out
    obtain ⟨m0, m1, m2⟩ := tri8 HC1.out
    clear g1 HS
    go_wp2
    have T3 := tri8_all HC1.out (.bool false) (.slice none 0 0) (.int .i64 0)
    have T4 := below_tri8 HG.out (show w.heap.size ≤ w.heap.size + 1 by omega) (.bool false) (.slice none 0 0) (.int .i64 0)
    obtain ⟨p0, p1, p2⟩ := tri8 T3
    have HE := hide T4
    clear T3 T4
    generalize ((t1.setCell ⟨w.heap.size + 1, 0, none⟩ (.bool false)).setCell ⟨w.heap.size + 1, 1, none⟩ (.slice none 0 0)).setCell ⟨w.heap.size + 1, 2, none⟩ (.int .i64 0) = w5 at *
    refine bodyPost_ret (v := .agg #[.bool false, .slice none 0 0, .int .i64 0]) (by simp [results, Tryd.results16, go_sem, p0, p1, p2]) rfl ?_
    exact ⟨⟨false, none, 0, 0, rfl, ⟨rfl, Num.nil8 _⟩, New.nil _ _ _⟩, HE.out⟩
  · have hs0 : (z.sign == 0) = false := by
      rw [beq_eq_false_iff_ne]
      intro h; exact hz (Int.sign_eq_zero_iff_zero.1 h)
    obtain ⟨t, ht⟩ : ∃ t, t = tl z.natAbs := ⟨_, rfl⟩
    have htl := tl_is (x := z.natAbs) (by omega)
    rw [← ht] at htl
    have htb := tl_le z.natAbs
    rw [← ht] at htb
    have hom : (omz z).natAbs = z.natAbs / 2 ^ t := by rw [omz_abs, ht]; rfl
    have hoe : oe z ex = ex + (t : Int) := by unfold oe; rw [if_neg hz, ht]
    have hob : b = decide (omz z < 0) := by rw [hbz]; exact decide_eq_decide.2 (omz_lt z).symm
    have wk : IntKind.i64.wrap (ex + (t : Int)) = ex + (t : Int) := by rw [IntKind.wrap_i64]; omega
    have HT := hide (fun (W : World) (hg : Below w.heap.size w W) => rtail_any (.slice a n c) z.natAbs t W (HNU.out.below hg) (.inr htl))
    have HSH := hide (fun (W : World) (hg : Below w.heap.size w W) => rshr_new (.slice a n c) z.natAbs t W (HNU.out.below hg) hbl (by omega))
    rw [← hom] at HSH
    rw [hoe]
    have HOB := hide hob
    generalize omz z = M at *
    generalize z.sign = sg' at *
    generalize hs : ex + (t : Int) = s at *
    have hs2 : ex + (t : Int) = s := hs
    clear hs hoe hob hom htl htb ht HNU hbz hz hbl
    go_enter Tryd.func16, Tryd.ntmps16
    go_wp2_with fail
    refine HS.mono ?_
    rintro e t1 ⟨rfl, g1⟩
    have c0 := block_upW g1 H0.out
    have HC1 := hide (block_upW g1 H1.out)
    have G1 := bl_trans8 HB.out g1
    obtain ⟨k0, k1⟩ := duo c0
    have HC0 := hide c0
    have HG := hide G1
    have HTT := HT.out t1 G1
    clear g1 HS c0 G1 H0 H1 HT
    go_wp2_with fail
    refine HTT.mono ?_
    rintro e wn ⟨rfl, hw⟩; rw [hw]; clear hw wn HTT
    have gd : Below w.heap.size w t1.drew := HG.out.drew
    have g0 : Below t1.drew.heap.size t1.drew t1.drew := Below.refl _ _
    have HR := HSH.out t1.drew gd
    have KS := hide (fun (W : World) (hg : Below t1.drew.heap.size t1.drew W) => show W.cell? ⟨w.heap.size, 0, none⟩ = some (.bool b) ∧ W.cell? ⟨w.heap.size, 1, none⟩ = some (.slice a n c) from duo (block_upW hg (show t1.drew.heap[w.heap.size]? = some (.cells #[.bool b, .slice a n c] 44) from HC0.out)))
    have so : ∀ (W : World) (k : Nat) (u : Value) (k' : Nat), (W.setCell ⟨w.heap.size + 1, k, none⟩ u).cell? ⟨w.heap.size, k', none⟩ = W.cell? ⟨w.heap.size, k', none⟩ := fun W k u k' => cell_other8 (by omega)
    have HD := hide gd
    clear gd HSH
    go_wp2
    go_region_held3 (fun w' => w'.cell? ⟨w.heap.size, 0, none⟩ = some (.bool b) ∧ w'.cell? ⟨w.heap.size, 1, none⟩ = some (.slice a n c)) (first | with_reducible exact KS.out _ g1 | with_reducible exact KS.out _ g0 | (refine ⟨?_, ?_⟩ <;> (rw [so, so, so]; first | exact (KS.out _ g1).1 | exact (KS.out _ g1).2))) (first
      | (go_at_call 42; refine HR.mono ?_; rintro e' t2 ⟨⟨v2, rfl, N2, NW2⟩, g1⟩; obtain ⟨a2, n2, c2, rfl⟩ := N2.sl; have hz := block_upW g1 (show t1.drew.heap[w.heap.size + 1]? = some (.cells #[.bool false, .slice none 0 0, .int .i64 0] 47) from HC1.out); have hf := tri8f hz; obtain ⟨m0, m1, m2⟩ := tri8 hz))
    have HNW := hide (New.mono NW2 (show w.heap.size ≤ t1.drew.heap.size from HD.out.size))
    clear NW2
    have T3 := tri8_all hz (.bool b) (.slice a2 n2 c2) (.int .i64 s)
    have T4 := below_tri8 (bl_trans8 HD.out g1) (show w.heap.size ≤ w.heap.size + 1 by omega) (.bool b) (.slice a2 n2 c2) (.int .i64 s)
    have T5 := N2.tri8 hz b a2 n2 c2 (.int .i64 s)
    obtain ⟨p0, p1, p2⟩ := tri8 T3
    have HE := hide (And.intro T5 T4)
    clear T3 T4 T5 so m0 m1 m2 hf KS g0 g1 HR hz N2
    generalize ((t2.setCell ⟨w.heap.size + 1, 0, none⟩ (.bool b)).setCell ⟨w.heap.size + 1, 1, none⟩ (.slice a2 n2 c2)).setCell ⟨w.heap.size + 1, 2, none⟩ (.int .i64 s) = w5 at *
    go_wp2
    refine bodyPost_ret (v := .agg #[.bool b, .slice a2 n2 c2, .int .i64 s]) (by simp [results, Tryd.results16, go_sem, p0, p1, p2]) rfl ?_
    exact ⟨⟨_, _, _, _, rfl, ⟨HOB.out, HE.out.1⟩, HNW.out⟩, HE.out.2⟩

end Go.Proofs.YtlengglmnbpkbaaDoor
