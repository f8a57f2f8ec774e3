/- The document's Round. -/
import Derived.Test.YtemajaclpkgpbaaDoorDyNZ
import Derived.Test.YtemajaclpkgpbaaDoorDyKZ
import Derived.Test.YtemajaclpkgpbaaDoorDyZnZ
namespace Go.Proofs.YtemajaclpkgpbaaDoor
open Go.RowKit
open Lm
attribute [local go_sem ↓] Go.wp_at_zero Go.wp_at_succ

theorem Dn.ofZn {w : World} {b : Bool} {a : Option Addr} {n c : Nat} {M : Int} (h : Zn w (.agg #[.bool b, .slice a n c]) M) : Dn w b (.slice a n c) M := by
  obtain ⟨h1, h2⟩ := h.inv9
  exact ⟨h1, h2⟩

set_option maxRecDepth 20000 in
set_option maxHeartbeats 1000000 in
theorem rdRound_same (b : Bool) (a : Option Addr) (n c : Nat) (M E pos m : Int) (w : World) (h : Dn w b (.slice a n c) M) (hs : M = 0 ∨ pos ≤ E) :
    Calls Tryd.prog 58 #[.agg #[.bool b, .slice a n c, .int .i64 E], .int .i64 pos, .int .i64 m] w (DnDone w M E) := by
  obtain ⟨w0, hw0, hb0, h0, h1'⟩ := enter2 w (.cells #[.bool b, .slice a n c, .int .i64 E] 36) (.cells #[.bool false, .slice none 0 0, .int .i64 0] 36)
  obtain ⟨k0, k1, k2⟩ := tri8 h0
  have HS := rzsign_any _ M w0 (h.below hb0).zn
  have H0 := hide h0
  have H1 := hide h1'
  have HB := hide hb0
  have HD := hide h
  clear h0 h1' hb0 h
  by_cases hM : M = 0
  · have hsg : (M.sign == 0) = true := by rw [hM]; rfl
    generalize M.sign = sg' at *
    clear hM hs
    go_enter Tryd.func58, Tryd.ntmps58
    go_wp2_with fail
    refine HS.mono ?_
    rintro e t1 ⟨rfl, g1⟩
    have HC1 := hide (block_upW g1 H1.out)
    have HG := hide (bl_trans8 HB.out g1)
    have HDN := hide (HD.out.below HG.out)
    have hf1 := tri8f HC1.out
    obtain ⟨m0, m1, m2⟩ := tri8 HC1.out
    obtain ⟨l0, l1, l2⟩ := tri8 (block_upW g1 H0.out)
    clear g1 HS
    go_wp2
    have T3 := tri8_all HC1.out (.bool b) (.slice a n c) (.int .i64 E)
    have T4 := below_tri8 HG.out (show w.heap.size ≤ w.heap.size + 1 by omega) (.bool b) (.slice a n c) (.int .i64 E)
    have T5 := HDN.out.tri8 HC1.out b a n c (.int .i64 E)
    obtain ⟨p0, p1, p2⟩ := tri8 T3
    have HE := hide (And.intro T5 T4)
    clear T3 T4 T5
    generalize ((t1.setCell ⟨w.heap.size + 1, 0, none⟩ (.bool b)).setCell ⟨w.heap.size + 1, 1, none⟩ (.slice a n c)).setCell ⟨w.heap.size + 1, 2, none⟩ (.int .i64 E) = w5 at *
    refine bodyPost_ret (v := .agg #[.bool b, .slice a n c, .int .i64 E]) (by simp [results, Tryd.results58, go_sem, p0, p1, p2]) rfl ?_
    exact ⟨⟨_, _, _, _, rfl, HE.out.1⟩, HE.out.2⟩
  · have hsg : (M.sign == 0) = false := by
      rw [beq_eq_false_iff_ne]
      intro h; exact hM (Int.sign_eq_zero_iff_zero.1 h)
    have hpe : pos ≤ E := by rcases hs with hs | hs; exact absurd hs hM; exact hs
    generalize M.sign = sg' at *
    clear hM hs
    go_enter Tryd.func58, Tryd.ntmps58
    go_wp2_with fail
    refine HS.mono ?_
    rintro e t1 ⟨rfl, g1⟩
    have HC1 := hide (block_upW g1 H1.out)
    have HG := hide (bl_trans8 HB.out g1)
    have HDN := hide (HD.out.below HG.out)
    have hf1 := tri8f HC1.out
    obtain ⟨m0, m1, m2⟩ := tri8 HC1.out
    obtain ⟨l0, l1, l2⟩ := tri8 (block_upW g1 H0.out)
    clear g1 HS
    go_wp2
    have T3 := tri8_all HC1.out (.bool b) (.slice a n c) (.int .i64 E)
    have T4 := below_tri8 HG.out (show w.heap.size ≤ w.heap.size + 1 by omega) (.bool b) (.slice a n c) (.int .i64 E)
    have T5 := HDN.out.tri8 HC1.out b a n c (.int .i64 E)
    obtain ⟨p0, p1, p2⟩ := tri8 T3
    have HE := hide (And.intro T5 T4)
    clear T3 T4 T5
    generalize ((t1.setCell ⟨w.heap.size + 1, 0, none⟩ (.bool b)).setCell ⟨w.heap.size + 1, 1, none⟩ (.slice a n c)).setCell ⟨w.heap.size + 1, 2, none⟩ (.int .i64 E) = w5 at *
    refine bodyPost_ret (v := .agg #[.bool b, .slice a n c, .int .i64 E]) (by simp [results, Tryd.results58, go_sem, p0, p1, p2]) rfl ?_
    exact ⟨⟨_, _, _, _, rfl, HE.out.1⟩, HE.out.2⟩

set_option maxRecDepth 20000 in
set_option maxHeartbeats 2000000 in
theorem rdRound_far (b : Bool) (a : Option Addr) (n c : Nat) (M E pos m : Int) (s : Nat) (w : World) (h : Dn w b (.slice a n c) M) (hM : M ≠ 0) (hs : pos - E = (s : Int)) (hs0 : 0 < s) (hfar : blen M.natAbs + 2 < s) (hs3 : s ≤ 4611686018427387904) (hp1 : -1152921504606846976 ≤ pos) (hp2 : pos ≤ 1152921504606846976) (hm : m = 0 ∨ m = 1 ∨ m = 2) :
    Calls Tryd.prog 58 #[.agg #[.bool b, .slice a n c, .int .i64 E], .int .i64 pos, .int .i64 m] w (DnDone w (omz (zz b (rq b M.natAbs s m))) (oe (zz b (rq b M.natAbs s m)) pos)) := by
  rw [rq_far b M.natAbs s m hfar hm]
  obtain ⟨w0, hw0, hb0, h0, h1'⟩ := enter2 w (.cells #[.bool b, .slice a n c, .int .i64 E] 36) (.cells #[.bool false, .slice none 0 0, .int .i64 0] 36)
  obtain ⟨k0, k1, k2⟩ := tri8 h0
  have HS := rzsign_any _ M w0 (h.below hb0).zn
  have hsg : (M.sign == 0) = false := by
    rw [beq_eq_false_iff_ne]
    intro h; exact hM (Int.sign_eq_zero_iff_zero.1 h)
  have hpe : ¬ pos ≤ E := by omega
  have wd : IntKind.i64.wrap (s : Int) = (s : Int) := by rw [IntKind.wrap_i64]; omega
  have HLN := hide (fun (W : World) (hg : Below w.heap.size w W) => len_any (.slice a n c) M.natAbs W (h.2.below hg))
  have H0 := hide h0
  have H1 := hide h1'
  have HB := hide hb0
  have HD := hide h
  generalize M.sign = sg' at *
  have i1 : ((blen M.natAbs : Nat) : Int) + 2 < (s : Int) := by omega
  have w2 : IntKind.i64.wrap (((blen M.natAbs : Nat) : Int) + 2) = ((blen M.natAbs : Nat) : Int) + 2 := by rw [IntKind.wrap_i64]; omega
  generalize blen M.natAbs = l at *
  clear hfar
  rcases hm with rfl | rfl | rfl
  · cases b
    · rw [show zz false (if (0 : Int) = 0 ∧ false = true ∨ (0 : Int) = 1 ∧ false = false then 1 else 0) = 0 by decide, omz_zero, show oe 0 pos = 0 by simp [oe]]
      clear h0 h1' hb0 h hM
      go_enter Tryd.func58, Tryd.ntmps58
      go_wp2_with fail
      refine HS.mono ?_
      rintro e t1 ⟨rfl, g1⟩
      have HC1 := hide (block_upW g1 H1.out)
      have HC0 := hide (block_upW g1 H0.out)
      have HG := hide (bl_trans8 HB.out g1)
      have hf1 := tri8f HC1.out
      obtain ⟨m0, m1, m2⟩ := tri8 HC1.out
      obtain ⟨l0, l1, l2⟩ := tri8 HC0.out
      have HL := HLN.out t1 HG.out
      clear g1 HS HLN H0 H1 HB
      go_wp2_with fail
      refine HL.mono ?_
      rintro e wn ⟨rfl, hw⟩; rw [hw]; clear hw wn HL
      have HDN := hide (show Dn t1 false (.slice none 0 0) 0 from ⟨rfl, Num.nil8 _⟩)
      go_wp2
      have T3 := tri8_all HC1.out (.bool false) (.slice none 0 0) (.int .i64 0)
      have T4 := below_tri8 HG.out (show w.heap.size ≤ w.heap.size + 1 by omega) (.bool false) (.slice none 0 0) (.int .i64 0)
      have T5 := HDN.out.tri8 HC1.out false none 0 0 (.int .i64 0)
      obtain ⟨p0, p1, p2⟩ := tri8 T3
      have HE := hide (And.intro T5 T4)
      clear T3 T4 T5
      generalize ((t1.setCell ⟨w.heap.size + 1, 0, none⟩ (.bool false)).setCell ⟨w.heap.size + 1, 1, none⟩ (.slice none 0 0)).setCell ⟨w.heap.size + 1, 2, none⟩ (.int .i64 0) = w5 at *
      refine bodyPost_ret (v := .agg #[.bool false, .slice none 0 0, .int .i64 0]) (by simp [results, Tryd.results58, go_sem, p0, p1, p2]) rfl ?_
      exact ⟨⟨_, _, _, _, rfl, HE.out.1⟩, HE.out.2⟩
    · rw [show zz true (if (0 : Int) = 0 ∧ true = true ∨ (0 : Int) = 1 ∧ true = false then 1 else 0) = -1 by decide]
      clear h0 h1' hb0 h hM
      go_enter Tryd.func58, Tryd.ntmps58
      go_wp2_with fail
      refine HS.mono ?_
      rintro e t1 ⟨rfl, g1⟩
      have HC1 := hide (block_upW g1 H1.out)
      have HC0 := hide (block_upW g1 H0.out)
      have HG := hide (bl_trans8 HB.out g1)
      have hf1 := tri8f HC1.out
      obtain ⟨m0, m1, m2⟩ := tri8 HC1.out
      obtain ⟨l0, l1, l2⟩ := tri8 HC0.out
      have HL := HLN.out t1 HG.out
      clear g1 HS HLN H0 H1 HB
      go_wp2_with fail
      refine HL.mono ?_
      rintro e wn ⟨rfl, hw⟩; rw [hw]; clear hw wn HL
      have HI := rdInt_any (-1) pos t1 (by decide) (by decide) (by omega) (by omega)
      generalize omz (-1) = RM at *
      generalize oe (-1) pos = RE at *
      go_wp2_with fail
      refine HI.mono ?_
      rintro e t2 ⟨⟨b2, a2, n2, c2, rfl, d2⟩, g2⟩
      have HC2 := hide (block_upW g2 HC1.out)
      have HG2 := hide (bl_trans8 HG.out g2)
      have HDN := hide d2
      clear g2 d2 HI HC1 HG m0 m1 m2 hf1
      have HC1 := hide HC2.out
      have HG := hide HG2.out
      have hf1 := tri8f HC1.out
      obtain ⟨m0, m1, m2⟩ := tri8 HC1.out
      go_wp2
      have T3 := tri8_all HC1.out (.bool b2) (.slice a2 n2 c2) (.int .i64 RE)
      have T4 := below_tri8 HG.out (show w.heap.size ≤ w.heap.size + 1 by omega) (.bool b2) (.slice a2 n2 c2) (.int .i64 RE)
      have T5 := HDN.out.tri8 HC1.out b2 a2 n2 c2 (.int .i64 RE)
      obtain ⟨p0, p1, p2⟩ := tri8 T3
      have HE := hide (And.intro T5 T4)
      clear T3 T4 T5
      generalize ((t2.setCell ⟨w.heap.size + 1, 0, none⟩ (.bool b2)).setCell ⟨w.heap.size + 1, 1, none⟩ (.slice a2 n2 c2)).setCell ⟨w.heap.size + 1, 2, none⟩ (.int .i64 RE) = w5 at *
      refine bodyPost_ret (v := .agg #[.bool b2, .slice a2 n2 c2, .int .i64 RE]) (by simp [results, Tryd.results58, go_sem, p0, p1, p2]) rfl ?_
      exact ⟨⟨_, _, _, _, rfl, HE.out.1⟩, HE.out.2⟩
  · cases b
    · rw [show zz false (if (1 : Int) = 0 ∧ false = true ∨ (1 : Int) = 1 ∧ false = false then 1 else 0) = 1 by decide]
      clear h0 h1' hb0 h hM
      go_enter Tryd.func58, Tryd.ntmps58
      go_wp2_with fail
      refine HS.mono ?_
      rintro e t1 ⟨rfl, g1⟩
      have HC1 := hide (block_upW g1 H1.out)
      have HC0 := hide (block_upW g1 H0.out)
      have HG := hide (bl_trans8 HB.out g1)
      have hf1 := tri8f HC1.out
      obtain ⟨m0, m1, m2⟩ := tri8 HC1.out
      obtain ⟨l0, l1, l2⟩ := tri8 HC0.out
      have HL := HLN.out t1 HG.out
      clear g1 HS HLN H0 H1 HB
      go_wp2_with fail
      refine HL.mono ?_
      rintro e wn ⟨rfl, hw⟩; rw [hw]; clear hw wn HL
      have HI := rdInt_any 1 pos t1 (by decide) (by decide) (by omega) (by omega)
      generalize omz 1 = RM at *
      generalize oe 1 pos = RE at *
      go_wp2_with fail
      refine HI.mono ?_
      rintro e t2 ⟨⟨b2, a2, n2, c2, rfl, d2⟩, g2⟩
      have HC2 := hide (block_upW g2 HC1.out)
      have HG2 := hide (bl_trans8 HG.out g2)
      have HDN := hide d2
      clear g2 d2 HI HC1 HG m0 m1 m2 hf1
      have HC1 := hide HC2.out
      have HG := hide HG2.out
      have hf1 := tri8f HC1.out
      obtain ⟨m0, m1, m2⟩ := tri8 HC1.out
      go_wp2
      have T3 := tri8_all HC1.out (.bool b2) (.slice a2 n2 c2) (.int .i64 RE)
      have T4 := below_tri8 HG.out (show w.heap.size ≤ w.heap.size + 1 by omega) (.bool b2) (.slice a2 n2 c2) (.int .i64 RE)
      have T5 := HDN.out.tri8 HC1.out b2 a2 n2 c2 (.int .i64 RE)
      obtain ⟨p0, p1, p2⟩ := tri8 T3
      have HE := hide (And.intro T5 T4)
      clear T3 T4 T5
      generalize ((t2.setCell ⟨w.heap.size + 1, 0, none⟩ (.bool b2)).setCell ⟨w.heap.size + 1, 1, none⟩ (.slice a2 n2 c2)).setCell ⟨w.heap.size + 1, 2, none⟩ (.int .i64 RE) = w5 at *
      refine bodyPost_ret (v := .agg #[.bool b2, .slice a2 n2 c2, .int .i64 RE]) (by simp [results, Tryd.results58, go_sem, p0, p1, p2]) rfl ?_
      exact ⟨⟨_, _, _, _, rfl, HE.out.1⟩, HE.out.2⟩
    · rw [show zz true (if (1 : Int) = 0 ∧ true = true ∨ (1 : Int) = 1 ∧ true = false then 1 else 0) = 0 by decide, omz_zero, show oe 0 pos = 0 by simp [oe]]
      clear h0 h1' hb0 h hM
      go_enter Tryd.func58, Tryd.ntmps58
      go_wp2_with fail
      refine HS.mono ?_
      rintro e t1 ⟨rfl, g1⟩
      have HC1 := hide (block_upW g1 H1.out)
      have HC0 := hide (block_upW g1 H0.out)
      have HG := hide (bl_trans8 HB.out g1)
      have hf1 := tri8f HC1.out
      obtain ⟨m0, m1, m2⟩ := tri8 HC1.out
      obtain ⟨l0, l1, l2⟩ := tri8 HC0.out
      have HL := HLN.out t1 HG.out
      clear g1 HS HLN H0 H1 HB
      go_wp2_with fail
      refine HL.mono ?_
      rintro e wn ⟨rfl, hw⟩; rw [hw]; clear hw wn HL
      have HDN := hide (show Dn t1 false (.slice none 0 0) 0 from ⟨rfl, Num.nil8 _⟩)
      go_wp2
      have T3 := tri8_all HC1.out (.bool false) (.slice none 0 0) (.int .i64 0)
      have T4 := below_tri8 HG.out (show w.heap.size ≤ w.heap.size + 1 by omega) (.bool false) (.slice none 0 0) (.int .i64 0)
      have T5 := HDN.out.tri8 HC1.out false none 0 0 (.int .i64 0)
      obtain ⟨p0, p1, p2⟩ := tri8 T3
      have HE := hide (And.intro T5 T4)
      clear T3 T4 T5
      generalize ((t1.setCell ⟨w.heap.size + 1, 0, none⟩ (.bool false)).setCell ⟨w.heap.size + 1, 1, none⟩ (.slice none 0 0)).setCell ⟨w.heap.size + 1, 2, none⟩ (.int .i64 0) = w5 at *
      refine bodyPost_ret (v := .agg #[.bool false, .slice none 0 0, .int .i64 0]) (by simp [results, Tryd.results58, go_sem, p0, p1, p2]) rfl ?_
      exact ⟨⟨_, _, _, _, rfl, HE.out.1⟩, HE.out.2⟩
  · have e0 : zz b (if (2 : Int) = 0 ∧ b = true ∨ (2 : Int) = 1 ∧ b = false then 1 else 0) = 0 := by cases b <;> decide
    rw [e0, omz_zero, show oe 0 pos = 0 by simp [oe]]
    clear h0 h1' hb0 h hM
    go_enter Tryd.func58, Tryd.ntmps58
    go_wp2_with fail
    refine HS.mono ?_
    rintro e t1 ⟨rfl, g1⟩
    have HC1 := hide (block_upW g1 H1.out)
    have HC0 := hide (block_upW g1 H0.out)
    have HG := hide (bl_trans8 HB.out g1)
    have hf1 := tri8f HC1.out
    obtain ⟨m0, m1, m2⟩ := tri8 HC1.out
    obtain ⟨l0, l1, l2⟩ := tri8 HC0.out
    have HL := HLN.out t1 HG.out
    clear g1 HS HLN H0 H1 HB
    go_wp2_with fail
    refine HL.mono ?_
    rintro e wn ⟨rfl, hw⟩; rw [hw]; clear hw wn HL
    have HDN := hide (show Dn t1 false (.slice none 0 0) 0 from ⟨rfl, Num.nil8 _⟩)
    go_wp2
    have T3 := tri8_all HC1.out (.bool false) (.slice none 0 0) (.int .i64 0)
    have T4 := below_tri8 HG.out (show w.heap.size ≤ w.heap.size + 1 by omega) (.bool false) (.slice none 0 0) (.int .i64 0)
    have T5 := HDN.out.tri8 HC1.out false none 0 0 (.int .i64 0)
    obtain ⟨p0, p1, p2⟩ := tri8 T3
    have HE := hide (And.intro T5 T4)
    clear T3 T4 T5
    generalize ((t1.setCell ⟨w.heap.size + 1, 0, none⟩ (.bool false)).setCell ⟨w.heap.size + 1, 1, none⟩ (.slice none 0 0)).setCell ⟨w.heap.size + 1, 2, none⟩ (.int .i64 0) = w5 at *
    refine bodyPost_ret (v := .agg #[.bool false, .slice none 0 0, .int .i64 0]) (by simp [results, Tryd.results58, go_sem, p0, p1, p2]) rfl ?_
    exact ⟨⟨_, _, _, _, rfl, HE.out.1⟩, HE.out.2⟩

set_option maxRecDepth 20000 in
set_option maxHeartbeats 4000000 in
theorem rdRound_near (b : Bool) (a : Option Addr) (n c : Nat) (M E pos m : Int) (s : Nat) (w : World) (h : Dn w b (.slice a n c) M) (hM : M ≠ 0) (hodd : M.natAbs % 2 = 1) (hs : pos - E = (s : Int)) (hs0 : 0 < s) (hfar : s ≤ blen M.natAbs + 2) (hbl : blen M.natAbs ≤ 1125899906809900) (hp1 : -1152921504606846976 ≤ pos) (hp2 : pos ≤ 1152921504606846976) (hm : m = 0 ∨ m = 1 ∨ m = 2) :
    Calls Tryd.prog 58 #[.agg #[.bool b, .slice a n c, .int .i64 E], .int .i64 pos, .int .i64 m] w (DnDone w (omz (zz b (rq b M.natAbs s m))) (oe (zz b (rq b M.natAbs s m)) pos)) := by
  have hMb : M = zz b M.natAbs := by rw [h.1, zz_self]
  have hrb : blen (zz b (rq b M.natAbs s m)).natAbs ≤ 1125899906840000 := by
    rw [zz_abs]
    unfold rq
    have h1 := Nat.div_le_self M.natAbs (2 ^ s)
    have h2 := (blen_le_iff M.natAbs (blen M.natAbs)).1 (Nat.le_refl _)
    have h3 : blen (M.natAbs / 2 ^ s + if ga b M.natAbs s m then 1 else 0) ≤ blen M.natAbs + 1 := by
      refine (blen_le_iff _ _).2 ?_
      rw [Nat.pow_succ]
      have := Nat.two_pow_pos (blen M.natAbs)
      split <;> omega
    omega
  have HRB := hide hrb
  clear hrb
  obtain ⟨w0, hw0, hb0, h0, h1'⟩ := enter2 w (.cells #[.bool b, .slice a n c, .int .i64 E] 36) (.cells #[.bool false, .slice none 0 0, .int .i64 0] 36)
  obtain ⟨k0, k1, k2⟩ := tri8 h0
  have HS := rzsign_any _ M w0 (h.below hb0).zn
  have hsg : (M.sign == 0) = false := by
    rw [beq_eq_false_iff_ne]
    intro h; exact hM (Int.sign_eq_zero_iff_zero.1 h)
  have hpe : ¬ pos ≤ E := by omega
  have wd : IntKind.i64.wrap (s : Int) = (s : Int) := by rw [IntKind.wrap_i64]; omega
  have HLN := hide (fun (W : World) (hg : Below w.heap.size w W) => len_any (.slice a n c) M.natAbs W (h.2.below hg))
  have H0 := hide h0
  have H1 := hide h1'
  have HB := hide hb0
  have HD := hide h
  generalize M.sign = sg' at *
  have i1 : ¬ ((blen M.natAbs : Nat) : Int) + 2 < (s : Int) := by omega
  have w2 : IntKind.i64.wrap (((blen M.natAbs : Nat) : Int) + 2) = ((blen M.natAbs : Nat) : Int) + 2 := by rw [IntKind.wrap_i64]; omega
  rcases hm with rfl | rfl | rfl
  · have HQE : Hid (flq M ((2 ^ s : Nat) : Int) = zz b (rq b M.natAbs s 0)) := hide (by
      have := rq_floor b M.natAbs s hodd hs0
      rw [← hMb] at this; exact this)
    generalize zz b (rq b M.natAbs s 0) = RM at *
    clear hMb
    clear h0 h1' hb0 h hM
    go_enter Tryd.func58, Tryd.ntmps58
    go_wp2_with fail
    refine HS.mono ?_
    rintro e t1 ⟨rfl, g1⟩
    have HC1 := hide (block_upW g1 H1.out)
    have HC0 := hide (block_upW g1 H0.out)
    have HG := hide (bl_trans8 HB.out g1)
    have hf1 := tri8f HC1.out
    obtain ⟨m0, m1, m2⟩ := tri8 HC1.out
    obtain ⟨l0, l1, l2⟩ := tri8 HC0.out
    have HL := HLN.out t1 HG.out
    clear g1 HS HLN H0 H1 HB
    go_wp2_with fail
    refine HL.mono ?_
    rintro e wn ⟨rfl, hw⟩; rw [hw]; clear hw wn HL
    have HI1 := rint_all 1 t1 (by omega)
    go_wp2_with fail
    refine HI1.mono ?_
    rintro e t2 ⟨⟨v2, rfl, N2⟩, g2⟩
    have HSL := rshl_any v2 1 s t2 N2 (by rw [show blen 1 = 1 by decide]; omega)
    rw [Nat.one_mul] at HSL
    have HG2 := hide (bl_trans8 HG.out g2)
    have HC2 := hide (block_upW g2 HC1.out)
    have HC3 := hide (block_upW g2 HC0.out)
    obtain ⟨av2, nv2, cv2, rfl⟩ := N2.sl
    clear HI1 g2 N2
    go_wp2_with fail
    refine HSL.mono ?_
    rintro e t3 ⟨⟨v3, rfl, N3⟩, g3⟩
    obtain ⟨a3, n3, c3, rfl⟩ := N3.sl
    obtain ⟨w4, hw4, hb4, h4, h5⟩ := enter2 t3 (.cells #[.bool false, .slice a3 n3 c3] 34) (.cells #[.bool false, .slice none 0 0] 34)
    have hfz := duof h5
    obtain ⟨z0, z1⟩ := duo h5
    obtain ⟨w4b, hw4b, hb4b, h4b, h5b⟩ : ∃ w4b, (w4.setCell ⟨t3.heap.size + 1, 0, none⟩ (.bool false)).setCell ⟨t3.heap.size + 1, 1, none⟩ (.slice none 0 0) = w4b ∧ Below t3.heap.size t3 w4b ∧ w4b.heap[t3.heap.size]? = some (.cells #[.bool false, .slice a3 n3 c3] 34) ∧ w4b.heap[t3.heap.size + 1]? = some (.cells #[.bool false, .slice none 0 0] 34) := ⟨_, rfl, below_duo hb4 (by omega), duo_other h4 (by omega), duo_all h5⟩
    have hsw : w4b.heap.size = t3.heap.size + 2 := by
      rw [← hw4b]
      have h9 : w4.heap.size = t3.heap.size + 2 := by rw [← hw4, World.size_alloc, World.size_alloc]
      simpa [World.setCell] using h9
    have HSW := hide hsw
    clear hsw
    have g4 := bl_trans8 g3 hb4b
    have HG4 := hide (bl_trans8 HG2.out g4)
    have HC4 := hide (block_upW g4 HC2.out)
    have HC5 := hide (block_upW g4 HC3.out)
    have hp2s := Nat.two_pow_pos s
    have hzs : Zn w4b (.agg #[.bool false, .slice a3 n3 c3]) ((2 ^ s : Nat) : Int) := ⟨.slice a3 n3 c3, by rw [(two_pow_int s).2], by rw [(two_pow_int s).1]; exact N3.below hb4b⟩
    have HZM := (HD.out.below HG4.out).zn
    have hbs : blen (((2 ^ s : Nat) : Int)).natAbs ≤ 1125899906810000 := by
      rw [(two_pow_int s).1]
      have h6 := blen_eq (2 ^ s) s (Nat.le_refl _) (by rw [Nat.pow_succ]; omega)
      omega
    have HQ := rzfloor_any _ _ M ((2 ^ s : Nat) : Int) w4b HZM hzs (by omega) (by omega) hbs
    rw [HQE.out] at HQ
    obtain ⟨u0, u1⟩ := duo h4b
    obtain ⟨u2, u3⟩ := duo h5b
    have hf5 := duof h5b
    obtain ⟨l0, l1, l2⟩ := tri8 HC5.out
    have H5 := hide h5b
    clear HSL g3 g4 hb4 h4 h5 hb4b h4b h5b N3 HZM hzs hbs HC2 HC3 HC0 HC1 HG HG2 hp2s m0 m1 m2 hf1
    go_wp2_with fail
    refine HQ.mono ?_
    rintro e t5 ⟨⟨b5, a5, n5, c5, b6, a6, n6, c6, rfl, Z5, Z6⟩, g5⟩
    have HQ5 := block_upW g5 H5.out
    have hf6 := duof HQ5
    obtain ⟨x0, x1⟩ := duo HQ5
    have d5 := duo_all HQ5 (a' := .bool b5) (b' := .slice a5 n5 c5)
    have HG5 := bl_trans8 HG4.out g5
    have hsz : w.heap.size ≤ t3.heap.size + 1 := by
      have h7 := lt_of_block HC4.out
      have h8 := lt_of_block H5.out
      have h9 := HSW.out
      omega
    have hne : w.heap.size + 1 ≠ t3.heap.size + 1 := by
      intro h
      have h7 := HC4.out
      rw [h, H5.out] at h7
      simp at h7
    have G6 := below_duo HG5 (g := t3.heap.size + 1) (u0 := .bool b5) (u1 := .slice a5 n5 c5) hsz
    have c6' := duo_other (u0 := .bool b5) (u1 := .slice a5 n5 c5) (block_upW g5 HC4.out) hne
    have Z7 := Z5.duo (p1 := b5) (r1 := .slice a5 n5 c5) HQ5
    have HOF := rdOf_any b5 a5 n5 c5 RM pos _ Z7 HRB.out (by omega) (by omega)
    obtain ⟨y0, y1⟩ := duo d5
    have HC6 := hide c6'
    have HG6 := hide G6
    clear HQ HQ5 d5 G6 c6' Z5 Z6 Z7 HG5 g5 HG4 HC4 HC5 H5 hsz hne
    go_wp2_with fail
    generalize (t5.setCell ⟨t3.heap.size + 1, 0, none⟩ (.bool b5)).setCell ⟨t3.heap.size + 1, 1, none⟩ (.slice a5 n5 c5) = t6 at *
    refine HOF.mono ?_
    rintro e t7 ⟨⟨b7, a7, n7, c7, rfl, d7⟩, g7⟩
    have HC1 := hide (block_upW g7 HC6.out)
    have HG := hide (bl_trans8 HG6.out g7)
    have HDN := hide d7
    have hf1 := tri8f HC1.out
    obtain ⟨m0, m1, m2⟩ := tri8 HC1.out
    clear g7 d7 HOF HC6 HG6
    generalize oe RM pos = RE at *
    go_wp2
    have T3 := tri8_all HC1.out (.bool b7) (.slice a7 n7 c7) (.int .i64 RE)
    have T4 := below_tri8 HG.out (show w.heap.size ≤ w.heap.size + 1 by omega) (.bool b7) (.slice a7 n7 c7) (.int .i64 RE)
    have T5 := HDN.out.tri8 HC1.out b7 a7 n7 c7 (.int .i64 RE)
    obtain ⟨p0, p1, p2⟩ := tri8 T3
    have HE := hide (And.intro T5 T4)
    clear T3 T4 T5
    generalize ((t7.setCell ⟨w.heap.size + 1, 0, none⟩ (.bool b7)).setCell ⟨w.heap.size + 1, 1, none⟩ (.slice a7 n7 c7)).setCell ⟨w.heap.size + 1, 2, none⟩ (.int .i64 RE) = w5 at *
    refine bodyPost_ret (v := .agg #[.bool b7, .slice a7 n7 c7, .int .i64 RE]) (by simp [results, Tryd.results58, go_sem, p0, p1, p2]) rfl ?_
    exact ⟨⟨_, _, _, _, rfl, HE.out.1⟩, HE.out.2⟩
  · have HQE : Hid (ceq M ((2 ^ s : Nat) : Int) = zz b (rq b M.natAbs s 1)) := hide (by
      have := rq_ceil b M.natAbs s hodd hs0
      rw [← hMb] at this; exact this)
    generalize zz b (rq b M.natAbs s 1) = RM at *
    clear hMb
    clear h0 h1' hb0 h hM
    go_enter Tryd.func58, Tryd.ntmps58
    go_wp2_with fail
    refine HS.mono ?_
    rintro e t1 ⟨rfl, g1⟩
    have HC1 := hide (block_upW g1 H1.out)
    have HC0 := hide (block_upW g1 H0.out)
    have HG := hide (bl_trans8 HB.out g1)
    have hf1 := tri8f HC1.out
    obtain ⟨m0, m1, m2⟩ := tri8 HC1.out
    obtain ⟨l0, l1, l2⟩ := tri8 HC0.out
    have HL := HLN.out t1 HG.out
    clear g1 HS HLN H0 H1 HB
    go_wp2_with fail
    refine HL.mono ?_
    rintro e wn ⟨rfl, hw⟩; rw [hw]; clear hw wn HL
    have HI1 := rint_all 1 t1 (by omega)
    go_wp2_with fail
    refine HI1.mono ?_
    rintro e t2 ⟨⟨v2, rfl, N2⟩, g2⟩
    have HSL := rshl_any v2 1 s t2 N2 (by rw [show blen 1 = 1 by decide]; omega)
    rw [Nat.one_mul] at HSL
    have HG2 := hide (bl_trans8 HG.out g2)
    have HC2 := hide (block_upW g2 HC1.out)
    have HC3 := hide (block_upW g2 HC0.out)
    obtain ⟨av2, nv2, cv2, rfl⟩ := N2.sl
    clear HI1 g2 N2
    go_wp2_with fail
    refine HSL.mono ?_
    rintro e t3 ⟨⟨v3, rfl, N3⟩, g3⟩
    obtain ⟨a3, n3, c3, rfl⟩ := N3.sl
    obtain ⟨w4, hw4, hb4, h4, h5⟩ := enter2 t3 (.cells #[.bool false, .slice a3 n3 c3] 34) (.cells #[.bool false, .slice none 0 0] 34)
    have hfz := duof h5
    obtain ⟨z0, z1⟩ := duo h5
    obtain ⟨w4b, hw4b, hb4b, h4b, h5b⟩ : ∃ w4b, (w4.setCell ⟨t3.heap.size + 1, 0, none⟩ (.bool false)).setCell ⟨t3.heap.size + 1, 1, none⟩ (.slice none 0 0) = w4b ∧ Below t3.heap.size t3 w4b ∧ w4b.heap[t3.heap.size]? = some (.cells #[.bool false, .slice a3 n3 c3] 34) ∧ w4b.heap[t3.heap.size + 1]? = some (.cells #[.bool false, .slice none 0 0] 34) := ⟨_, rfl, below_duo hb4 (by omega), duo_other h4 (by omega), duo_all h5⟩
    have hsw : w4b.heap.size = t3.heap.size + 2 := by
      rw [← hw4b]
      have h9 : w4.heap.size = t3.heap.size + 2 := by rw [← hw4, World.size_alloc, World.size_alloc]
      simpa [World.setCell] using h9
    have HSW := hide hsw
    clear hsw
    have g4 := bl_trans8 g3 hb4b
    have HG4 := hide (bl_trans8 HG2.out g4)
    have HC4 := hide (block_upW g4 HC2.out)
    have HC5 := hide (block_upW g4 HC3.out)
    have hp2s := Nat.two_pow_pos s
    have hzs : Zn w4b (.agg #[.bool false, .slice a3 n3 c3]) ((2 ^ s : Nat) : Int) := ⟨.slice a3 n3 c3, by rw [(two_pow_int s).2], by rw [(two_pow_int s).1]; exact N3.below hb4b⟩
    have HZM := (HD.out.below HG4.out).zn
    have hbs : blen (((2 ^ s : Nat) : Int)).natAbs ≤ 1125899906810000 := by
      rw [(two_pow_int s).1]
      have h6 := blen_eq (2 ^ s) s (Nat.le_refl _) (by rw [Nat.pow_succ]; omega)
      omega
    have HQ := rzceil_any _ _ M ((2 ^ s : Nat) : Int) w4b HZM hzs (by omega) (by omega) hbs
    rw [HQE.out] at HQ
    obtain ⟨u0, u1⟩ := duo h4b
    obtain ⟨u2, u3⟩ := duo h5b
    have hf5 := duof h5b
    obtain ⟨l0, l1, l2⟩ := tri8 HC5.out
    have H5 := hide h5b
    clear HSL g3 g4 hb4 h4 h5 hb4b h4b h5b N3 HZM hzs hbs HC2 HC3 HC0 HC1 HG HG2 hp2s m0 m1 m2 hf1
    go_wp2_with fail
    refine HQ.mono ?_
    rintro e t5 ⟨⟨b5, a5, n5, c5, b6, a6, n6, c6, rfl, Z5, Z6⟩, g5⟩
    have HQ5 := block_upW g5 H5.out
    have hf6 := duof HQ5
    obtain ⟨x0, x1⟩ := duo HQ5
    have d5 := duo_all HQ5 (a' := .bool b5) (b' := .slice a5 n5 c5)
    have HG5 := bl_trans8 HG4.out g5
    have hsz : w.heap.size ≤ t3.heap.size + 1 := by
      have h7 := lt_of_block HC4.out
      have h8 := lt_of_block H5.out
      have h9 := HSW.out
      omega
    have hne : w.heap.size + 1 ≠ t3.heap.size + 1 := by
      intro h
      have h7 := HC4.out
      rw [h, H5.out] at h7
      simp at h7
    have G6 := below_duo HG5 (g := t3.heap.size + 1) (u0 := .bool b5) (u1 := .slice a5 n5 c5) hsz
    have c6' := duo_other (u0 := .bool b5) (u1 := .slice a5 n5 c5) (block_upW g5 HC4.out) hne
    have Z7 := Z5.duo (p1 := b5) (r1 := .slice a5 n5 c5) HQ5
    have HOF := rdOf_any b5 a5 n5 c5 RM pos _ Z7 HRB.out (by omega) (by omega)
    obtain ⟨y0, y1⟩ := duo d5
    have HC6 := hide c6'
    have HG6 := hide G6
    clear HQ HQ5 d5 G6 c6' Z5 Z6 Z7 HG5 g5 HG4 HC4 HC5 H5 hsz hne
    go_wp2_with fail
    generalize (t5.setCell ⟨t3.heap.size + 1, 0, none⟩ (.bool b5)).setCell ⟨t3.heap.size + 1, 1, none⟩ (.slice a5 n5 c5) = t6 at *
    refine HOF.mono ?_
    rintro e t7 ⟨⟨b7, a7, n7, c7, rfl, d7⟩, g7⟩
    have HC1 := hide (block_upW g7 HC6.out)
    have HG := hide (bl_trans8 HG6.out g7)
    have HDN := hide d7
    have hf1 := tri8f HC1.out
    obtain ⟨m0, m1, m2⟩ := tri8 HC1.out
    clear g7 d7 HOF HC6 HG6
    generalize oe RM pos = RE at *
    go_wp2
    have T3 := tri8_all HC1.out (.bool b7) (.slice a7 n7 c7) (.int .i64 RE)
    have T4 := below_tri8 HG.out (show w.heap.size ≤ w.heap.size + 1 by omega) (.bool b7) (.slice a7 n7 c7) (.int .i64 RE)
    have T5 := HDN.out.tri8 HC1.out b7 a7 n7 c7 (.int .i64 RE)
    obtain ⟨p0, p1, p2⟩ := tri8 T3
    have HE := hide (And.intro T5 T4)
    clear T3 T4 T5
    generalize ((t7.setCell ⟨w.heap.size + 1, 0, none⟩ (.bool b7)).setCell ⟨w.heap.size + 1, 1, none⟩ (.slice a7 n7 c7)).setCell ⟨w.heap.size + 1, 2, none⟩ (.int .i64 RE) = w5 at *
    refine bodyPost_ret (v := .agg #[.bool b7, .slice a7 n7 c7, .int .i64 RE]) (by simp [results, Tryd.results58, go_sem, p0, p1, p2]) rfl ?_
    exact ⟨⟨_, _, _, _, rfl, HE.out.1⟩, HE.out.2⟩
  · have HQE : Hid (neq M ((2 ^ s : Nat) : Int) = zz b (rq b M.natAbs s 2)) := hide (by
      have := rq_near b M.natAbs s hodd hs0
      rw [← hMb] at this; exact this)
    generalize zz b (rq b M.natAbs s 2) = RM at *
    clear hMb
    clear h0 h1' hb0 h hM
    go_enter Tryd.func58, Tryd.ntmps58
    go_wp2_with fail
    refine HS.mono ?_
    rintro e t1 ⟨rfl, g1⟩
    have HC1 := hide (block_upW g1 H1.out)
    have HC0 := hide (block_upW g1 H0.out)
    have HG := hide (bl_trans8 HB.out g1)
    have hf1 := tri8f HC1.out
    obtain ⟨m0, m1, m2⟩ := tri8 HC1.out
    obtain ⟨l0, l1, l2⟩ := tri8 HC0.out
    have HL := HLN.out t1 HG.out
    clear g1 HS HLN H0 H1 HB
    go_wp2_with fail
    refine HL.mono ?_
    rintro e wn ⟨rfl, hw⟩; rw [hw]; clear hw wn HL
    have HI1 := rint_all 1 t1 (by omega)
    go_wp2_with fail
    refine HI1.mono ?_
    rintro e t2 ⟨⟨v2, rfl, N2⟩, g2⟩
    have HSL := rshl_any v2 1 s t2 N2 (by rw [show blen 1 = 1 by decide]; omega)
    rw [Nat.one_mul] at HSL
    have HG2 := hide (bl_trans8 HG.out g2)
    have HC2 := hide (block_upW g2 HC1.out)
    have HC3 := hide (block_upW g2 HC0.out)
    obtain ⟨av2, nv2, cv2, rfl⟩ := N2.sl
    clear HI1 g2 N2
    go_wp2_with fail
    refine HSL.mono ?_
    rintro e t3 ⟨⟨v3, rfl, N3⟩, g3⟩
    obtain ⟨a3, n3, c3, rfl⟩ := N3.sl
    obtain ⟨w4, hw4, hb4, h4, h5⟩ := enter2 t3 (.cells #[.bool false, .slice a3 n3 c3] 34) (.cells #[.bool false, .slice none 0 0] 34)
    have hfz := duof h5
    obtain ⟨z0, z1⟩ := duo h5
    obtain ⟨w4b, hw4b, hb4b, h4b, h5b⟩ : ∃ w4b, (w4.setCell ⟨t3.heap.size + 1, 0, none⟩ (.bool false)).setCell ⟨t3.heap.size + 1, 1, none⟩ (.slice none 0 0) = w4b ∧ Below t3.heap.size t3 w4b ∧ w4b.heap[t3.heap.size]? = some (.cells #[.bool false, .slice a3 n3 c3] 34) ∧ w4b.heap[t3.heap.size + 1]? = some (.cells #[.bool false, .slice none 0 0] 34) := ⟨_, rfl, below_duo hb4 (by omega), duo_other h4 (by omega), duo_all h5⟩
    have hsw : w4b.heap.size = t3.heap.size + 2 := by
      rw [← hw4b]
      have h9 : w4.heap.size = t3.heap.size + 2 := by rw [← hw4, World.size_alloc, World.size_alloc]
      simpa [World.setCell] using h9
    have HSW := hide hsw
    clear hsw
    have g4 := bl_trans8 g3 hb4b
    have HG4 := hide (bl_trans8 HG2.out g4)
    have HC4 := hide (block_upW g4 HC2.out)
    have HC5 := hide (block_upW g4 HC3.out)
    have hp2s := Nat.two_pow_pos s
    have hzs : Zn w4b (.agg #[.bool false, .slice a3 n3 c3]) ((2 ^ s : Nat) : Int) := ⟨.slice a3 n3 c3, by rw [(two_pow_int s).2], by rw [(two_pow_int s).1]; exact N3.below hb4b⟩
    have HZM := (HD.out.below HG4.out).zn
    have hbs : blen (((2 ^ s : Nat) : Int)).natAbs ≤ 1125899906810000 := by
      rw [(two_pow_int s).1]
      have h6 := blen_eq (2 ^ s) s (Nat.le_refl _) (by rw [Nat.pow_succ]; omega)
      omega
    have HQ := rznear_any _ _ M ((2 ^ s : Nat) : Int) w4b HZM hzs (by omega) (by omega) hbs
    rw [HQE.out] at HQ
    obtain ⟨u0, u1⟩ := duo h4b
    obtain ⟨u2, u3⟩ := duo h5b
    have hf5 := duof h5b
    obtain ⟨l0, l1, l2⟩ := tri8 HC5.out
    have H5 := hide h5b
    clear HSL g3 g4 hb4 h4 h5 hb4b h4b h5b N3 HZM hzs hbs HC2 HC3 HC0 HC1 HG HG2 hp2s m0 m1 m2 hf1
    go_wp2_with fail
    refine HQ.mono ?_
    rintro e t5 ⟨⟨b5, a5, n5, c5, b6, a6, n6, c6, rfl, Z5, Z6⟩, g5⟩
    have HQ5 := block_upW g5 H5.out
    have hf6 := duof HQ5
    obtain ⟨x0, x1⟩ := duo HQ5
    have d5 := duo_all HQ5 (a' := .bool b5) (b' := .slice a5 n5 c5)
    have HG5 := bl_trans8 HG4.out g5
    have hsz : w.heap.size ≤ t3.heap.size + 1 := by
      have h7 := lt_of_block HC4.out
      have h8 := lt_of_block H5.out
      have h9 := HSW.out
      omega
    have hne : w.heap.size + 1 ≠ t3.heap.size + 1 := by
      intro h
      have h7 := HC4.out
      rw [h, H5.out] at h7
      simp at h7
    have G6 := below_duo HG5 (g := t3.heap.size + 1) (u0 := .bool b5) (u1 := .slice a5 n5 c5) hsz
    have c6' := duo_other (u0 := .bool b5) (u1 := .slice a5 n5 c5) (block_upW g5 HC4.out) hne
    have Z7 := Z5.duo (p1 := b5) (r1 := .slice a5 n5 c5) HQ5
    have HOF := rdOf_any b5 a5 n5 c5 RM pos _ Z7 HRB.out (by omega) (by omega)
    obtain ⟨y0, y1⟩ := duo d5
    have HC6 := hide c6'
    have HG6 := hide G6
    clear HQ HQ5 d5 G6 c6' Z5 Z6 Z7 HG5 g5 HG4 HC4 HC5 H5 hsz hne
    go_wp2_with fail
    generalize (t5.setCell ⟨t3.heap.size + 1, 0, none⟩ (.bool b5)).setCell ⟨t3.heap.size + 1, 1, none⟩ (.slice a5 n5 c5) = t6 at *
    refine HOF.mono ?_
    rintro e t7 ⟨⟨b7, a7, n7, c7, rfl, d7⟩, g7⟩
    have HC1 := hide (block_upW g7 HC6.out)
    have HG := hide (bl_trans8 HG6.out g7)
    have HDN := hide d7
    have hf1 := tri8f HC1.out
    obtain ⟨m0, m1, m2⟩ := tri8 HC1.out
    clear g7 d7 HOF HC6 HG6
    generalize oe RM pos = RE at *
    go_wp2
    have T3 := tri8_all HC1.out (.bool b7) (.slice a7 n7 c7) (.int .i64 RE)
    have T4 := below_tri8 HG.out (show w.heap.size ≤ w.heap.size + 1 by omega) (.bool b7) (.slice a7 n7 c7) (.int .i64 RE)
    have T5 := HDN.out.tri8 HC1.out b7 a7 n7 c7 (.int .i64 RE)
    obtain ⟨p0, p1, p2⟩ := tri8 T3
    have HE := hide (And.intro T5 T4)
    clear T3 T4 T5
    generalize ((t7.setCell ⟨w.heap.size + 1, 0, none⟩ (.bool b7)).setCell ⟨w.heap.size + 1, 1, none⟩ (.slice a7 n7 c7)).setCell ⟨w.heap.size + 1, 2, none⟩ (.int .i64 RE) = w5 at *
    refine bodyPost_ret (v := .agg #[.bool b7, .slice a7 n7 c7, .int .i64 RE]) (by simp [results, Tryd.results58, go_sem, p0, p1, p2]) rfl ?_
    exact ⟨⟨_, _, _, _, rfl, HE.out.1⟩, HE.out.2⟩

theorem rdRound_any (b : Bool) (a : Option Addr) (n c : Nat) (M E pos m : Int) (w : World) (h : Dn w b (.slice a n c) M) (hN : Norm8 M E) (hbl : blen M.natAbs ≤ 1125899906809900) (he1 : -1152921504606846976 ≤ E) (he2 : E ≤ 1152921504606846976) (hp1 : -1152921504606846976 ≤ pos) (hp2 : pos ≤ 1152921504606846976) (hm : m = 0 ∨ m = 1 ∨ m = 2) :
    Calls Tryd.prog 58 #[.agg #[.bool b, .slice a n c, .int .i64 E], .int .i64 pos, .int .i64 m] w (DnDone w (omz (rndM M E pos m)) (oe (rndM M E pos m) (rndE M E pos))) := by
  by_cases hs : M = 0 ∨ pos ≤ E
  · rw [show rndM M E pos m = M by unfold rndM; rw [if_pos hs], show rndE M E pos = E by unfold rndE; rw [if_pos hs], hN.stay.1, hN.stay.2]
    exact rdRound_same b a n c M E pos m w h hs
  · have hM : M ≠ 0 := fun h => hs (.inl h)
    rw [show rndM M E pos m = zz b (rq b M.natAbs (pos - E).toNat m) by unfold rndM; rw [if_neg hs, h.1], show rndE M E pos = pos by unfold rndE; rw [if_neg hs]]
    have hpe : E < pos := Int.lt_of_not_ge fun h => hs (.inr h)
    have hodd : M.natAbs % 2 = 1 := by
      rcases hN with hN | hN
      · exact absurd hN.1 hM
      · exact hN
    by_cases hfar : blen M.natAbs + 2 < (pos - E).toNat
    · exact rdRound_far b a n c M E pos m (pos - E).toNat w h hM (by omega) (by omega) hfar (by omega) hp1 hp2 hm
    · exact rdRound_near b a n c M E pos m (pos - E).toNat w h hM hodd (by omega) (by omega) (by omega) hbl hp1 hp2 hm

end Go.Proofs.YtemajaclpkgpbaaDoor
