/- The document's answer against the program's: Fits, Told, the laws' alike, lent, of. -/
import Derived.Test.YtemajaclpkgpbaaDoorDyJZ
import Derived.Test.YtemajaclpkgpbaaDoorQH
namespace Go.Proofs.YtemajaclpkgpbaaDoor
open Go.RowKit
open Lm
attribute [local go_sem ↓] Go.wp_at_zero Go.wp_at_succ

theorem rfits_any (n : Int) (w : World) : Calls Tryd.prog 47 #[.int .i64 n] w fun e w' => e = .returned (.bool (fitE n)) ∧ w' = w := by
  by_cases h1 : -1099511627776 ≤ n
  · have h1' : decide (-1099511627776 ≤ n) = true := decide_eq_true h1
    by_cases h2 : n ≤ 1099511627776
    · have h2' : decide (n ≤ 1099511627776) = true := decide_eq_true h2
      rw [(fitE_iff n).2 ⟨h1, h2⟩]
      go_enter Tryd.func47, Tryd.ntmps47
      go_wp2
      go_ret
      exact ⟨rfl, rfl⟩
    · have h2' : decide (n ≤ 1099511627776) = false := decide_eq_false h2
      have e : fitE n = false := by rw [← Bool.not_eq_true, fitE_iff]; omega
      rw [e]
      go_enter Tryd.func47, Tryd.ntmps47
      go_wp2
      go_ret
      exact ⟨rfl, rfl⟩
  · have h1' : decide (-1099511627776 ≤ n) = false := decide_eq_false h1
    have e : fitE n = false := by rw [← Bool.not_eq_true, fitE_iff]; omega
    rw [e]
    go_enter Tryd.func47, Tryd.ntmps47
    go_wp2
    go_ret
    exact ⟨rfl, rfl⟩

/-- What Told answers. -/
def ToldR (w' : World) (b : Bool) (v : Value) (M E : Int) (b' : Bool) (v' : Value) (E' f : Int) : Prop :=
  (f = 0 ∧ b' = b ∧ v' = v ∧ E' = E ∧ blen M.natAbs ≤ 67108864 ∧ fitE E = true ∧ Dn w' b v M) ∨ (f = 3 ∧ 67108864 < blen M.natAbs) ∨ (f = 80 ∧ blen M.natAbs ≤ 67108864 ∧ fitE E = false)

set_option maxRecDepth 20000 in
set_option maxHeartbeats 1000000 in
theorem rtold_any (b : Bool) (a : Option Addr) (n c : Nat) (M E : Int) (w : World) (h : Dn w b (.slice a n c) M) :
    Calls Tryd.prog 60 #[.agg #[.bool b, .slice a n c, .int .i64 E]] w fun e w' => (∃ b' a' n' c' E' f, e = .returned (.tuple #[.agg #[.bool b', .slice a' n' c', .int .i64 E'], .int .i64 f]) ∧ ToldR w' b (.slice a n c) M E b' (.slice a' n' c') E' f) ∧ Below w.heap.size w w' := by
  obtain ⟨w0, hw0, hb0, h0, h1⟩ := enter2 w (.cells #[.bool b, .slice a n c, .int .i64 E] 36) (.cells #[.bool false, .slice none 0 0, .int .i64 0] 36)
  obtain ⟨k0, k1, k2⟩ := tri8 h0
  have hf := tri8f h1
  obtain ⟨m0, m1, m2⟩ := tri8 h1
  have HL := len_any _ M.natAbs w0 (h.2.below hb0)
  have HFI := rfits_any E w0
  have HC1 := hide h1
  have HG := hide hb0
  have HDN := hide (h.below hb0)
  clear h0 h1 hb0 h
  by_cases hb : blen M.natAbs ≤ 67108864
  · have i1 : ¬ (67108864 : Int) < ((blen M.natAbs : Nat) : Int) := by omega
    have HBL := hide hb
    by_cases hfit : fitE E = true
    · have HFE := hide hfit
      rw [hfit] at HFI
      clear hfit hb
      generalize hbl : blen M.natAbs = l at *
      go_enter Tryd.func60, Tryd.ntmps60
      go_wp2_with fail
      refine HL.mono ?_
      rintro e wn ⟨rfl, hw⟩; rw [hw]; clear hw wn HL
      go_wp2_with fail
      refine HFI.mono ?_
      rintro e wn ⟨rfl, hw⟩; rw [hw]; clear hw wn HFI
      go_wp2
      have T3 := tri8_all HC1.out (.bool b) (.slice a n c) (.int .i64 E)
      have T4 := below_tri8 HG.out (show w.heap.size ≤ w.heap.size + 1 by omega) (.bool b) (.slice a n c) (.int .i64 E)
      have T5 := HDN.out.tri8 HC1.out b a n c (.int .i64 E)
      obtain ⟨p0, p1, p2⟩ := tri8 T3
      have HE := hide (And.intro T5 T4)
      clear T3 T4 T5
      generalize ((w0.setCell ⟨w.heap.size + 1, 0, none⟩ (.bool b)).setCell ⟨w.heap.size + 1, 1, none⟩ (.slice a n c)).setCell ⟨w.heap.size + 1, 2, none⟩ (.int .i64 E) = w5 at *
      refine bodyPost_ret (v := .tuple #[.agg #[.bool b, .slice a n c, .int .i64 E], .int .i64 0]) (by simp [results, Tryd.results60, go_sem, p0, p1, p2]) rfl ?_
      exact ⟨⟨_, _, _, _, _, _, rfl, .inl ⟨rfl, rfl, rfl, rfl, by rw [hbl]; exact HBL.out, HFE.out, HE.out.1⟩⟩, HE.out.2⟩
    · have hfit2 : fitE E = false := by simpa using hfit
      have HFE := hide hfit2
      rw [hfit2] at HFI
      clear hfit hfit2 hb
      generalize hbl : blen M.natAbs = l at *
      go_enter Tryd.func60, Tryd.ntmps60
      go_wp2_with fail
      refine HL.mono ?_
      rintro e wn ⟨rfl, hw⟩; rw [hw]; clear hw wn HL
      go_wp2_with fail
      refine HFI.mono ?_
      rintro e wn ⟨rfl, hw⟩; rw [hw]; clear hw wn HFI
      go_wp2
      have T3 := tri8_all HC1.out (.bool false) (.slice none 0 0) (.int .i64 0)
      have T4 := below_tri8 HG.out (show w.heap.size ≤ w.heap.size + 1 by omega) (.bool false) (.slice none 0 0) (.int .i64 0)
      have T5 := HDN.out.tri8 HC1.out false none 0 0 (.int .i64 0)
      obtain ⟨p0, p1, p2⟩ := tri8 T3
      have HE := hide (And.intro T5 T4)
      clear T3 T4 T5
      generalize ((w0.setCell ⟨w.heap.size + 1, 0, none⟩ (.bool false)).setCell ⟨w.heap.size + 1, 1, none⟩ (.slice none 0 0)).setCell ⟨w.heap.size + 1, 2, none⟩ (.int .i64 0) = w5 at *
      refine bodyPost_ret (v := .tuple #[.agg #[.bool false, .slice none 0 0, .int .i64 0], .int .i64 80]) (by simp [results, Tryd.results60, go_sem, p0, p1, p2]) rfl ?_
      exact ⟨⟨_, _, _, _, _, _, rfl, .inr (.inr ⟨rfl, by rw [hbl]; exact HBL.out, HFE.out⟩)⟩, HE.out.2⟩
  · have i1 : (67108864 : Int) < ((blen M.natAbs : Nat) : Int) := by omega
    have HBL := hide (Nat.lt_of_not_le hb)
    clear hb HFI
    generalize hbl : blen M.natAbs = l at *
    go_enter Tryd.func60, Tryd.ntmps60
    go_wp2_with fail
    refine HL.mono ?_
    rintro e wn ⟨rfl, hw⟩; rw [hw]; clear hw wn HL
    go_wp2
    have T3 := tri8_all HC1.out (.bool false) (.slice none 0 0) (.int .i64 0)
    have T4 := below_tri8 HG.out (show w.heap.size ≤ w.heap.size + 1 by omega) (.bool false) (.slice none 0 0) (.int .i64 0)
    have T5 := HDN.out.tri8 HC1.out false none 0 0 (.int .i64 0)
    obtain ⟨p0, p1, p2⟩ := tri8 T3
    have HE := hide (And.intro T5 T4)
    clear T3 T4 T5
    generalize ((w0.setCell ⟨w.heap.size + 1, 0, none⟩ (.bool false)).setCell ⟨w.heap.size + 1, 1, none⟩ (.slice none 0 0)).setCell ⟨w.heap.size + 1, 2, none⟩ (.int .i64 0) = w5 at *
    refine bodyPost_ret (v := .tuple #[.agg #[.bool false, .slice none 0 0, .int .i64 0], .int .i64 3]) (by simp [results, Tryd.results60, go_sem, p0, p1, p2]) rfl ?_
    exact ⟨⟨_, _, _, _, _, _, rfl, .inr (.inl ⟨rfl, by rw [hbl]; exact HBL.out⟩)⟩, HE.out.2⟩

set_option maxRecDepth 20000 in
set_option maxHeartbeats 1000000 in
theorem alike8_bad (f : Int) (b2 : Bool) (a2 : Option Addr) (n2 c2 : Nat) (E : Int) (w : World) (hf : f ≠ 0) :
    Calls Tryd.prog 17 #[.agg #[.bool false, .slice none 0 0, .int .i64 0], .int .i64 f, .agg #[.bool b2, .slice a2 n2 c2, .int .i64 E], .int .i64 f] w fun e w' => e = .returned (.bool true) ∧ Below w.heap.size w w' := by
  obtain ⟨w0, hw0, hb0, h0, h1⟩ := enter2 w (.cells #[.bool false, .slice none 0 0, .int .i64 0] 29) (.cells #[.bool b2, .slice a2 n2 c2, .int .i64 E] 36)
  obtain ⟨k0, k1, k2⟩ := tri8 h0
  have HN := num8_any f w0
  have f1 : ((f : Int) == 0) = false := by rw [beq_eq_false_iff_ne]; exact hf
  have f2 : ((f : Int) != 0) = true := by rw [bne, f1]; rfl
  have f3 : ((f : Int) == f) = true := by simp
  have HB := hide hb0
  clear h0 h1 hb0
  go_enter Tryd.func17, Tryd.ntmps17
  go_wp2_with fail
  refine HN.mono ?_
  rintro e wn ⟨rfl, hw⟩; rw [hw]; clear hw wn HN
  go_wp2
  go_ret
  exact ⟨rfl, HB.out⟩

set_option maxRecDepth 20000 in
set_option maxHeartbeats 2000000 in
theorem alike8_ok (b : Bool) (a : Option Addr) (n c : Nat) (ex r : Int) (b2 : Bool) (a2 : Option Addr) (n2 c2 : Nat) (M E : Int) (base : Nat) (w : World) (hD : DR w base b (.slice a n c) ex r M E) (h : Dn w b2 (.slice a2 n2 c2) M) :
    Calls Tryd.prog 17 #[.agg #[.bool b, .slice a n c, .int .i64 ex], .int .i64 r, .agg #[.bool b2, .slice a2 n2 c2, .int .i64 E], .int .i64 0] w fun e w' => e = .returned (.bool true) ∧ Below w.heap.size w w' := by
  obtain ⟨w0, hw0, hb0, h0, h1⟩ := enter2 w (.cells #[.bool b, .slice a n c, .int .i64 ex] 29) (.cells #[.bool b2, .slice a2 n2 c2, .int .i64 E] 36)
  obtain ⟨m0, m1, m2⟩ := tri8 h1
  have HTD := rtold_any b2 a2 n2 c2 M E w0 (h.below hb0)
  have H0 := hide h0
  have H1 := hide h1
  have HB := hide hb0
  have HD := hide hD
  clear h0 h1 hb0 h hD
  go_enter Tryd.func17, Tryd.ntmps17
  go_wp2_with fail
  refine HTD.mono ?_
  rintro e t1 ⟨⟨b3, a3, n3, c3, E3, f, rfl, hcase⟩, g1⟩
  have G1 := bl_trans8 HB.out g1
  have c0 := block_upW g1 H0.out
  have c1 := block_upW g1 H1.out
  have hf1 := tri8f c1
  obtain ⟨m0, m1, m2⟩ := tri8 c1
  have hne : w.heap.size ≠ w.heap.size + 1 := by omega
  have d0 : (((t1.setCell ⟨w.heap.size + 1, 0, none⟩ (.bool b3)).setCell ⟨w.heap.size + 1, 1, none⟩ (.slice a3 n3 c3)).setCell ⟨w.heap.size + 1, 2, none⟩ (.int .i64 E3)).heap[w.heap.size]? = some (.cells #[.bool b, .slice a n c, .int .i64 ex] 29) := by
    rw [Below.heap_setCell _ _ _ _ hne, Below.heap_setCell _ _ _ _ hne, Below.heap_setCell _ _ _ _ hne]; exact c0
  have d1 := tri8_all c1 (.bool b3) (.slice a3 n3 c3) (.int .i64 E3)
  have G2 := below_tri8 G1 (show w.heap.size ≤ w.heap.size + 1 by omega) (.bool b3) (.slice a3 n3 c3) (.int .i64 E3)
  have DD := (HD.out.below G1).tri8 c1 (by decide) (.bool b3) (.slice a3 n3 c3) (.int .i64 E3)
  obtain ⟨q0, q1, q2⟩ := tri8 d0
  obtain ⟨o0, o1, o2⟩ := tri8 d1
  have HG := hide G2
  obtain ⟨rs, A1, H2⟩ := DD
  have HN := num8_any r (((t1.setCell ⟨w.heap.size + 1, 0, none⟩ (.bool b3)).setCell ⟨w.heap.size + 1, 1, none⟩ (.slice a3 n3 c3)).setCell ⟨w.heap.size + 1, 2, none⟩ (.int .i64 E3))
  rcases hcase with ⟨p1, p2, p3, p4, p5, p6, p7⟩ | ⟨p1, p2⟩ | ⟨p1, p2, p3⟩
  · subst p1 p2 p4
    cases p3
    have p7' := p7.tri8 c1 b3 a2 n2 c2 (.int .i64 E3)
    rcases H2 with ⟨q1', q2', q3, q4, q5, q6, q7⟩ | ⟨q1', _, _, _, _, q6⟩ | ⟨q1', _, _, _, _, _, q7⟩
    · subst q1' q5
      have eb : b3 = b := by rw [p7.1, q2']
      subst eb
      have hl : rs.length ≤ 1048576 := few_ofW q4 q3 (by omega)
      have HIS := rdIs_any b3 a2 n2 c2 M ex (.slice a n c) rs _ p7' (A1.arg (by omega)) q4 q3 (by omega)
      clear G1 G2 c0 c1 d0 d1 p7 p7' q2' q3 q4 q6 q7 p5 p6 A1 HTD H0 H1 HB HD hl g1
      go_wp2_with fail
      refine HN.mono ?_
      rintro e wn ⟨rfl, hw⟩; rw [hw]; clear hw wn HN
      go_wp2_with fail
      refine HIS.mono ?_
      rintro e t2 ⟨rfl, g2⟩
      have HE := hide (bl_trans8 HG.out g2)
      clear g2 HIS
      go_wp2
      go_ret
      exact ⟨rfl, HE.out⟩
    · omega
    · rw [p6] at q7; cases q7
  · subst p1
    rcases H2 with ⟨q1', q2', q3, q4, q5, q6, q7⟩ | ⟨q1', q2', q3', q4', _, q6⟩ | ⟨q1', _, _, _, _, q6, q7⟩
    · omega
    · subst q1' q2' q4'
      cases q3'
      clear G1 G2 c0 c1 d0 d1 A1 HTD H0 H1 HB HD g1 q6 p2
      go_wp2_with fail
      refine HN.mono ?_
      rintro e wn ⟨rfl, hw⟩; rw [hw]; clear hw wn HN
      go_wp2
      go_ret
      exact ⟨rfl, HG.out⟩
    · omega
  · subst p1
    rcases H2 with ⟨q1', q2', q3, q4, q5, q6, q7⟩ | ⟨q1', q2', q3', q4', _, q6⟩ | ⟨q1', q2', q3', q4', _, q6, q7⟩
    · rw [p3] at q7; cases q7
    · omega
    · subst q1' q2' q4'
      cases q3'
      clear G1 G2 c0 c1 d0 d1 A1 HTD H0 H1 HB HD g1 q6 q7 p2 p3
      go_wp2_with fail
      refine HN.mono ?_
      rintro e wn ⟨rfl, hw⟩; rw [hw]; clear hw wn HN
      go_wp2
      go_ret
      exact ⟨rfl, HG.out⟩

end Go.Proofs.YtemajaclpkgpbaaDoor
