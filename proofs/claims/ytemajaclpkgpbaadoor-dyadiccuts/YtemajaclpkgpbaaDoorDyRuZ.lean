/- The document's Cut and Whole of dyadics. -/
import Derived.Test.YtemajaclpkgpbaaDoorDySZ
import Derived.Test.YtemajaclpkgpbaaDoorDyO2Z
import Derived.Test.YtemajaclpkgpbaaDoorDyCuZ
import Derived.Test.YtemajaclpkgpbaaDoorRzSZ
import Derived.Test.YtemajaclpkgpbaaDoorDyZZ
import Derived.Deep.RegionHeld3
import Derived.BigQuiet
namespace Go.Proofs.YtemajaclpkgpbaaDoor
open Go.RowKit
open Lm
attribute [local go_sem ↓] Go.wp_at_zero Go.wp_at_succ

set_option maxRecDepth 20000 in
set_option maxHeartbeats 1000000 in
theorem rdCut_short (b : Bool) (a : Option Addr) (n c : Nat) (M E bits m : Int) (w : World) (h : Dn w b (.slice a n c) M) (hl : ((blen M.natAbs : Nat) : Int) ≤ bits) :
    Calls Tryd.prog 13 #[.agg #[.bool b, .slice a n c, .int .i64 E], .int .i64 bits, .int .i64 m] w (DnDone w M E) := by
  obtain ⟨w0, hw0, hb0, h0, h1'⟩ := enter2 w (.cells #[.bool b, .slice a n c, .int .i64 E] 36) (.cells #[.bool false, .slice none 0 0, .int .i64 0] 36)
  obtain ⟨k0, k1, k2⟩ := tri8 h0
  have HL := len_any _ _ w0 (h.below hb0).2
  have HC1 := hide h1'
  have HG := hide hb0
  have HDN := hide (h.below hb0)
  have hf1 := tri8f h1'
  obtain ⟨m0, m1, m2⟩ := tri8 h1'
  have i2 : decide (((blen M.natAbs : Nat) : Int) ≤ bits) = true := decide_eq_true hl
  generalize blen M.natAbs = l at *
  clear h0 h1' hb0 h
  go_enter Tryd.func13, Tryd.ntmps13
  go_wp2_with fail
  refine HL.mono ?_
  rintro e wn ⟨rfl, hw⟩; rw [hw]; clear hw wn HL
  go_wp2
  have T3 := tri8_all HC1.out (.bool b) (.slice a n c) (.int .i64 E)
  have T4 := below_tri8 HG.out (show w.heap.size ≤ w.heap.size + 1 by omega) (.bool b) (.slice a n c) (.int .i64 E)
  have T5 := HDN.out.tri8 HC1.out b a n c (.int .i64 E)
  obtain ⟨p0, p1, p2⟩ := tri8 T3
  have HE := hide (And.intro T5 T4)
  clear T3 T4 T5
  generalize ((w0.setCell ⟨w.heap.size + 1, 0, none⟩ (.bool b)).setCell ⟨w.heap.size + 1, 1, none⟩ (.slice a n c)).setCell ⟨w.heap.size + 1, 2, none⟩ (.int .i64 E) = w5 at *
  refine bodyPost_ret (v := .agg #[.bool b, .slice a n c, .int .i64 E]) (by simp [results, Tryd.results13, go_sem, p0, p1, p2]) rfl ?_
  exact ⟨⟨_, _, _, _, rfl, HE.out.1⟩, HE.out.2⟩

set_option maxRecDepth 20000 in
set_option maxHeartbeats 2000000 in
theorem rdCut_long (b : Bool) (a : Option Addr) (n c : Nat) (M E bits m : Int) (w : World) (h : Dn w b (.slice a n c) M) (hN : Norm8 M E) (hbl : blen M.natAbs ≤ 1125899906809900) (he1 : -576460752303423488 ≤ E) (he2 : E ≤ 576460752303423488) (hm : m = 0 ∨ m = 1 ∨ m = 2) (hK : 1 ≤ bits) (hl : bits < ((blen M.natAbs : Nat) : Int)) :
    Calls Tryd.prog 13 #[.agg #[.bool b, .slice a n c, .int .i64 E], .int .i64 bits, .int .i64 m] w (DnDone w (omz (rndM M E (cutP M E bits) m)) (oe (rndM M E (cutP M E bits) m) (rndE M E (cutP M E bits)))) := by
  obtain ⟨w0, hw0, hb0, h0, h1'⟩ := enter2 w (.cells #[.bool b, .slice a n c, .int .i64 E] 36) (.cells #[.bool false, .slice none 0 0, .int .i64 0] 36)
  obtain ⟨k0, k1, k2⟩ := tri8 h0
  have HL := len_any _ _ w0 (h.below hb0).2
  have gd : Below w.heap.size w w0.drew := hb0.drew
  have g0 : Below w0.drew.heap.size w0.drew w0.drew := Below.refl _ _
  have KS := hide (fun (W : World) (hg : Below w0.drew.heap.size w0.drew W) => show W.cell? ⟨w.heap.size, 0, none⟩ = some (.bool b) ∧ W.cell? ⟨w.heap.size, 1, none⟩ = some (.slice a n c) ∧ W.cell? ⟨w.heap.size, 2, none⟩ = some (.int .i64 E) from tri8 (block_upW hg (show w0.drew.heap[w.heap.size]? = some (.cells #[.bool b, .slice a n c, .int .i64 E] 36) from h0)))
  have HTP := rdTop_any b a n c M E w0.drew (h.below gd) (by omega) (by omega) (by omega)
  have hcp : cutP M E bits = E + ((blen M.natAbs : Nat) : Int) - bits := rfl
  have HRD := hide (fun (W : World) (hg : Below w0.drew.heap.size w0.drew W) => rdRound_any b a n c M E (cutP M E bits) m W ((h.below gd).below hg) hN hbl (by omega) (by omega) (by omega) (by omega) hm)
  have HCd := hide (show w0.drew.heap[w.heap.size + 1]? = some (.cells #[.bool false, .slice none 0 0, .int .i64 0] 36) from h1')
  have HGd := hide gd
  have i2 : decide (((blen M.natAbs : Nat) : Int) ≤ bits) = false := decide_eq_false (by omega)
  have i2b : ¬ ((blen M.natAbs : Nat) : Int) ≤ bits := by omega
  have so : ∀ (W : World) (k : Nat) (u : Value) (k' : Nat), (W.setCell ⟨w.heap.size + 1, k, none⟩ u).cell? ⟨w.heap.size, k', none⟩ = W.cell? ⟨w.heap.size, k', none⟩ := fun W k u k' => cell_other8 (by omega)
  generalize rndE M E (cutP M E bits) = RE at *
  generalize rndM M E (cutP M E bits) m = RM at *
  generalize omz RM = OM at *
  generalize oe RM RE = OE at *
  generalize cutP M E bits = cq at *
  generalize blen M.natAbs = l at *
  obtain ⟨tp, htp⟩ : ∃ tp : Int, tp = (l : Int) - 1 + E := ⟨_, rfl⟩
  obtain ⟨tq, htq⟩ : ∃ tq : Int, tq = tp - bits := ⟨_, rfl⟩
  have w1 : IntKind.i64.wrap (tp - bits) = tq := by rw [IntKind.wrap_i64]; omega
  have w1b : IntKind.i64.wrap tq = tq := by rw [IntKind.wrap_i64]; omega
  have w2 : IntKind.i64.wrap (tq + 1) = cq := by rw [IntKind.wrap_i64]; omega
  have w3 : tp - bits = tq := htq.symm
  rw [← htp] at HTP
  clear h0 h1' hb0 h gd hcp htq htp hN hm
  go_enter Tryd.func13, Tryd.ntmps13
  go_wp2_with fail
  refine HL.mono ?_
  rintro e wn ⟨rfl, hw⟩; rw [hw]; clear hw wn HL
  go_wp2
  go_region_held3 (fun w' => w'.cell? ⟨w.heap.size, 0, none⟩ = some (.bool b) ∧ w'.cell? ⟨w.heap.size, 1, none⟩ = some (.slice a n c) ∧ w'.cell? ⟨w.heap.size, 2, none⟩ = some (.int .i64 E)) (first | with_reducible exact KS.out _ g2 | with_reducible exact KS.out _ g1 | with_reducible exact KS.out _ g0 | (refine ⟨?_, ?_, ?_⟩ <;> (rw [so, so, so]; first | exact (KS.out _ g2).1 | exact (KS.out _ g2).2.1 | exact (KS.out _ g2).2.2))) (first
    | (go_at_call 59; refine HTP.mono ?_; rintro e' t6 ⟨rfl, g1⟩)
    | (go_at_call 58; refine (HRD.out t6 g1).mono ?_; rintro e' t7 ⟨⟨b6, a6, n6, c6, rfl, D6⟩, hb2⟩; have g2 := bl_trans8 g1 hb2; have hz := block_upW g2 HCd.out; have hfz := tri8f hz; obtain ⟨m0, m1, m2⟩ := tri8 hz))
  have HC1 := hide hz
  have HG := hide (bl_trans8 HGd.out g2)
  have HDN := hide D6
  clear so m0 m1 m2 hfz KS g0 g1 g2 hb2 hz D6 HTP HRD
  have T3 := tri8_all HC1.out (.bool b6) (.slice a6 n6 c6) (.int .i64 OE)
  have T4 := below_tri8 HG.out (show w.heap.size ≤ w.heap.size + 1 by omega) (.bool b6) (.slice a6 n6 c6) (.int .i64 OE)
  have T5 := HDN.out.tri8 HC1.out b6 a6 n6 c6 (.int .i64 OE)
  obtain ⟨p0, p1, p2⟩ := tri8 T3
  have HE := hide (And.intro T5 T4)
  clear T3 T4 T5
  generalize ((t7.setCell ⟨w.heap.size + 1, 0, none⟩ (.bool b6)).setCell ⟨w.heap.size + 1, 1, none⟩ (.slice a6 n6 c6)).setCell ⟨w.heap.size + 1, 2, none⟩ (.int .i64 OE) = w5 at *
  go_wp2
  refine bodyPost_ret (v := .agg #[.bool b6, .slice a6 n6 c6, .int .i64 OE]) (by simp [results, Tryd.results13, go_sem, p0, p1, p2]) rfl ?_
  exact ⟨⟨_, _, _, _, rfl, HE.out.1⟩, HE.out.2⟩

theorem rdCut_any (b : Bool) (a : Option Addr) (n c : Nat) (M E bits m : Int) (w : World) (h : Dn w b (.slice a n c) M) (hN : Norm8 M E) (hbl : blen M.natAbs ≤ 1125899906809900) (he1 : -576460752303423488 ≤ E) (he2 : E ≤ 576460752303423488) (hm : m = 0 ∨ m = 1 ∨ m = 2) (hK : 1 ≤ bits) :
    Calls Tryd.prog 13 #[.agg #[.bool b, .slice a n c, .int .i64 E], .int .i64 bits, .int .i64 m] w (DnDone w (omz (rndM M E (cutP M E bits) m)) (oe (rndM M E (cutP M E bits) m) (rndE M E (cutP M E bits)))) := by
  by_cases hl : ((blen M.natAbs : Nat) : Int) ≤ bits
  · have hp : M = 0 ∨ cutP M E bits ≤ E := by right; unfold cutP; omega
    rw [show rndM M E (cutP M E bits) m = M by unfold rndM; rw [if_pos hp], show rndE M E (cutP M E bits) = E by unfold rndE; rw [if_pos hp], hN.stay.1, hN.stay.2]
    exact rdCut_short b a n c M E bits m w h hl
  · exact rdCut_long b a n c M E bits m w h hN hbl he1 he2 hm hK (by omega)

theorem abs_pow9 (M : Int) (p : Nat) : (M * 2 ^ p).natAbs = M.natAbs * 2 ^ p := by
  rw [Int.natAbs_mul, Int.natAbs_pow]; rfl

/-- What the document's Whole answers. -/
def WholeR (w : World) (Z : Int) (e : Ending) (w' : World) : Prop :=
  (∃ b a n k ok, e = .returned (.tuple #[.agg #[.bool b, .slice a n k], .bool ok]) ∧ ((ok = true ∧ Zn w' (.agg #[.bool b, .slice a n k]) Z ∧ blen Z.natAbs ≤ 67108864) ∨ (ok = false ∧ 67108864 < blen Z.natAbs))) ∧ Below w.heap.size w w'

theorem whole_blen {RM : Int} {RE : Nat} (h0 : omz RM ≠ 0) : (0 ≤ oe RM (RE : Int)) ∧ RM * 2 ^ RE = omz RM * 2 ^ (oe RM (RE : Int)).toNat ∧ blen (RM * 2 ^ RE).natAbs = blen (omz RM).natAbs + (oe RM (RE : Int)).toNat := by
  have hr : Rp 0 RM (RE : Int) (RM * 2 ^ RE) := ⟨by omega, by rw [show ((RE : Int) + ((0 : Nat) : Int)).toNat = RE by omega]⟩
  obtain ⟨h1, h2⟩ := hr.norm
  have e1 : (oe RM (RE : Int) + ((0 : Nat) : Int)).toNat = (oe RM (RE : Int)).toNat := by omega
  rw [e1] at h2
  refine ⟨by omega, h2.symm, ?_⟩
  rw [← h2, abs_pow9, blen_shl _ _ (by omega)]

set_option maxRecDepth 20000 in
set_option maxHeartbeats 2000000 in
theorem rdWhole_any (b : Bool) (a : Option Addr) (n c : Nat) (M E m : Int) (w : World) (h : Dn w b (.slice a n c) M) (hN : Norm8 M E) (hbl : blen M.natAbs ≤ 1125899906809900) (he1 : -576460752303423488 ≤ E) (he2 : E ≤ 576460752303423488) (hm : m = 0 ∨ m = 1 ∨ m = 2) :
    Calls Tryd.prog 14 #[.agg #[.bool b, .slice a n c, .int .i64 E], .int .i64 m] w (WholeR w (rndM M E 0 m * 2 ^ (rndE M E 0).toNat)) := by
  have hRE : 0 ≤ rndE M E 0 ∧ rndE M E 0 ≤ 576460752303423488 := by
    unfold rndE
    split
    · rename_i h
      rcases h with h | h
      · rcases hN with h9 | h9
        · omega
        · rw [h] at h9; simp at h9
      · omega
    · omega
  have hrb := rnd_blen M E 0 m _ hbl
  obtain ⟨w0, hw0, hb0, h0, h1'⟩ := enter2 w (.cells #[.bool b, .slice a n c, .int .i64 E] 36) (.cells #[.bool false, .slice none 0 0] 34)
  obtain ⟨k0, k1, k2⟩ := tri8 h0
  have HRD := rdRound_any b a n c M E 0 m w0 (h.below hb0) hN hbl (by omega) (by omega) (by omega) (by omega) hm
  obtain ⟨RE, hre⟩ : ∃ RE : Nat, rndE M E 0 = (RE : Int) := ⟨(rndE M E 0).toNat, by omega⟩
  rw [hre] at HRD hRE
  rw [hre, Int.toNat_natCast]
  have HC := hide h1'
  have HB := hide hb0
  clear h0 h1' hb0 h hre hm hN
  generalize rndM M E 0 m = RM at *
  have hZ : (omz RM = 0 ∧ oe RM (RE : Int) = 0 ∧ RM * 2 ^ RE = 0) ∨ omz RM ≠ 0 := by
    by_cases hz : RM = 0
    · left; subst hz; exact ⟨omz_zero, by simp [oe], by simp⟩
    · exact .inr (omz_ne hz)
  have hob : blen (omz RM).natAbs ≤ 1125899906809901 := by
    have h5 := blen_mono (od_le RM.natAbs)
    rw [omz_abs]; omega
  have hoe : 0 ≤ oe RM (RE : Int) ∧ oe RM (RE : Int) ≤ 576460752303423488 + 1125899906809901 := by
    have := tl_le RM.natAbs
    unfold oe; split <;> omega
  obtain ⟨en, hen⟩ : ∃ en : Nat, oe RM (RE : Int) = (en : Int) := ⟨(oe RM (RE : Int)).toNat, by omega⟩
  have hV : RM * 2 ^ RE = omz RM * 2 ^ en ∧ (blen (RM * 2 ^ RE).natAbs ≤ 67108864 ↔ blen (omz RM).natAbs + en ≤ 67108864) := by
    rcases hZ with ⟨z1, z2, z3⟩ | hz
    · rw [z3, z1]
      have : en = 0 := by omega
      subst this
      simp [show blen 0 = 0 from rfl]
    · obtain ⟨_, q2, q3⟩ := whole_blen (RE := RE) hz
      rw [q2]
      rw [q2] at q3
      rw [hen, Int.toNat_natCast] at q3 ⊢
      exact ⟨rfl, by rw [q3]⟩
  rw [hen] at HRD
  have HVV := hide hV.2
  rw [hV.1] at HVV ⊢
  have hen2 : en ≤ 577586652210233389 := by omega
  clear hV hZ hoe hen hrb
  generalize omz RM = OM at *
  obtain ⟨l, hgl⟩ : ∃ l, blen OM.natAbs = l := ⟨_, rfl⟩
  have HLL := hide hgl
  rw [hgl] at hob HVV
  clear hgl
  have w1 : IntKind.i64.wrap ((l : Int) + (en : Int)) = (l : Int) + (en : Int) := by rw [IntKind.wrap_i64]; omega
  by_cases hbig : l + en ≤ 67108864
  · have i1 : decide ((67108864 : Int) < (l : Int) + (en : Int)) = false := decide_eq_false (by omega)
    have i1b : ¬ (67108864 : Int) < (l : Int) + (en : Int) := by omega
    have HFI := hide (HVV.out.2 hbig)
    go_enter Tryd.func14, Tryd.ntmps14
    go_wp2_with fail
    refine HRD.mono ?_
    rintro e t1 ⟨⟨b1, a1, n1, c1, rfl, D1⟩, g1⟩
    obtain ⟨w4, hw4, hb4, h4⟩ := enter1 t1 (.cells #[.bool b1, .slice a1 n1 c1, .int .i64 (en : Int)] 36)
    have HG4 := hide (bl_trans8 (bl_trans8 HB.out g1) hb4)
    have HC4 := hide (block_upW (bl_trans8 g1 hb4) HC.out)
    have gd : Below w4.heap.size w4 w4.drew := (Below.refl _ _).drew
    have HD4 := hide ((D1.below hb4).below gd)
    have HLN := len_any _ OM.natAbs w4.drew HD4.out.2
    rw [HLL.out] at HLN
    have g0 : Below w4.drew.heap.size w4.drew w4.drew := Below.refl _ _
    have KS := hide (fun (W : World) (hg : Below w4.drew.heap.size w4.drew W) => show W.cell? ⟨t1.heap.size, 0, none⟩ = some (.bool b1) ∧ W.cell? ⟨t1.heap.size, 1, none⟩ = some (.slice a1 n1 c1) ∧ W.cell? ⟨t1.heap.size, 2, none⟩ = some (.int .i64 (en : Int)) from tri8 (block_upW hg (show w4.drew.heap[t1.heap.size]? = some (.cells #[.bool b1, .slice a1 n1 c1, .int .i64 (en : Int)] 36) from h4)))
    clear g1 hb4 h4 D1 HRD HC HB gd
    go_wp2
    go_region_held3 (fun w' => w'.cell? ⟨t1.heap.size, 0, none⟩ = some (.bool b1) ∧ w'.cell? ⟨t1.heap.size, 1, none⟩ = some (.slice a1 n1 c1) ∧ w'.cell? ⟨t1.heap.size, 2, none⟩ = some (.int .i64 (en : Int))) (first | with_reducible exact KS.out _ g0) (first
      | (go_at_call 24; refine HLN.mono ?_; rintro e' wn ⟨rfl, hw⟩; rw [hw]; clear hw wn))
    obtain ⟨l0, l1, l2⟩ := KS.out _ g0
    clear g0 KS HLN
    have HC1 := hide (show w4.drew.heap[w.heap.size + 1]? = some (.cells #[.bool false, .slice none 0 0] 34) from HC4.out)
    have HG := hide (show Below w.heap.size w w4.drew from HG4.out.drew)
    clear HC4 HG4
    generalize w4.drew = wd at *
    have HSH := rzshift_any b1 a1 n1 c1 OM en wd HD4.out.zn (by rw [HLL.out]; omega)
    go_wp2_with fail
    refine HSH.mono ?_
    rintro e t2 ⟨⟨b2, a2, n2, c2, rfl, Z2⟩, g2⟩
    have hz := block_upW g2 HC1.out
    have hfz := duof hz
    obtain ⟨m0, m1⟩ := duo hz
    have T3 := duo_all hz (a' := .bool b2) (b' := .slice a2 n2 c2)
    have T4 := below_duo (bl_trans8 HG.out g2) (g := w.heap.size + 1) (u0 := .bool b2) (u1 := .slice a2 n2 c2) (by omega)
    have T5 := Z2.duo (p1 := b2) (r1 := .slice a2 n2 c2) hz
    obtain ⟨p0, p1⟩ := duo T3
    have HE := hide (And.intro T5 T4)
    clear T3 T4 T5 hz Z2 g2 HSH
    go_wp2
    generalize (t2.setCell ⟨w.heap.size + 1, 0, none⟩ (.bool b2)).setCell ⟨w.heap.size + 1, 1, none⟩ (.slice a2 n2 c2) = w5 at *
    refine bodyPost_ret (v := .tuple #[.agg #[.bool b2, .slice a2 n2 c2], .bool true]) (by simp [results, Tryd.results14, go_sem, p0, p1]) rfl ?_
    exact ⟨⟨_, _, _, _, _, rfl, .inl ⟨rfl, HE.out.1, HFI.out⟩⟩, HE.out.2⟩
  · have i1 : decide ((67108864 : Int) < (l : Int) + (en : Int)) = true := decide_eq_true (by omega)
    have i1b : (67108864 : Int) < (l : Int) + (en : Int) := by omega
    have HFI := hide (show 67108864 < blen (OM * 2 ^ en).natAbs from Nat.lt_of_not_le fun h => hbig (HVV.out.1 h))
    go_enter Tryd.func14, Tryd.ntmps14
    go_wp2_with fail
    refine HRD.mono ?_
    rintro e t1 ⟨⟨b1, a1, n1, c1, rfl, D1⟩, g1⟩
    obtain ⟨w4, hw4, hb4, h4⟩ := enter1 t1 (.cells #[.bool b1, .slice a1 n1 c1, .int .i64 (en : Int)] 36)
    have HG4 := hide (bl_trans8 (bl_trans8 HB.out g1) hb4)
    have HC4 := hide (block_upW (bl_trans8 g1 hb4) HC.out)
    have gd : Below w4.heap.size w4 w4.drew := (Below.refl _ _).drew
    have HD4 := hide ((D1.below hb4).below gd)
    have HLN := len_any _ OM.natAbs w4.drew HD4.out.2
    rw [HLL.out] at HLN
    have g0 : Below w4.drew.heap.size w4.drew w4.drew := Below.refl _ _
    have KS := hide (fun (W : World) (hg : Below w4.drew.heap.size w4.drew W) => show W.cell? ⟨t1.heap.size, 0, none⟩ = some (.bool b1) ∧ W.cell? ⟨t1.heap.size, 1, none⟩ = some (.slice a1 n1 c1) ∧ W.cell? ⟨t1.heap.size, 2, none⟩ = some (.int .i64 (en : Int)) from tri8 (block_upW hg (show w4.drew.heap[t1.heap.size]? = some (.cells #[.bool b1, .slice a1 n1 c1, .int .i64 (en : Int)] 36) from h4)))
    clear g1 hb4 h4 D1 HRD HC HB gd
    go_wp2
    go_region_held3 (fun w' => w'.cell? ⟨t1.heap.size, 0, none⟩ = some (.bool b1) ∧ w'.cell? ⟨t1.heap.size, 1, none⟩ = some (.slice a1 n1 c1) ∧ w'.cell? ⟨t1.heap.size, 2, none⟩ = some (.int .i64 (en : Int))) (first | with_reducible exact KS.out _ g0) (first
      | (go_at_call 24; refine HLN.mono ?_; rintro e' wn ⟨rfl, hw⟩; rw [hw]; clear hw wn))
    obtain ⟨l0, l1, l2⟩ := KS.out _ g0
    clear g0 KS HLN
    have HC1 := hide (show w4.drew.heap[w.heap.size + 1]? = some (.cells #[.bool false, .slice none 0 0] 34) from HC4.out)
    have HG := hide (show Below w.heap.size w w4.drew from HG4.out.drew)
    clear HC4 HG4
    generalize w4.drew = wd at *
    have hfz := duof HC1.out
    obtain ⟨m0, m1⟩ := duo HC1.out
    have T3 := duo_all HC1.out (a' := .bool false) (b' := .slice none 0 0)
    have T4 := below_duo HG.out (g := w.heap.size + 1) (u0 := .bool false) (u1 := .slice none 0 0) (by omega)
    obtain ⟨p0, p1⟩ := duo T3
    have HE := hide T4
    clear T3 T4
    go_wp2
    generalize (wd.setCell ⟨w.heap.size + 1, 0, none⟩ (.bool false)).setCell ⟨w.heap.size + 1, 1, none⟩ (.slice none 0 0) = w5 at *
    refine bodyPost_ret (v := .tuple #[.agg #[.bool false, .slice none 0 0], .bool false]) (by simp [results, Tryd.results14, go_sem, p0, p1]) rfl ?_
    exact ⟨⟨_, _, _, _, _, rfl, .inr ⟨rfl, HFI.out⟩⟩, HE.out⟩

end Go.Proofs.YtemajaclpkgpbaaDoor
