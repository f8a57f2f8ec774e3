/- Package mul: into, of any two lists. -/
import Derived.Test.YtmloigbacfllhaaDoorMulW
namespace Go.Proofs.YtmloigbacfllhaaDoor
open Go.RowKit
open Lm

theorem Arg.addr {w : World} {v : Value} {X : List Nat} (h : Arg w v X) (h0 : 0 < X.length) : ∃ b off c, v = .slice (some ⟨b, off, none⟩) X.length c := by
  obtain ⟨ao, c, rfl, _, _, hl⟩ := h.form
  rcases hl with h1 | ⟨b, off, rfl, _⟩
  · rw [h1] at h0; simp at h0
  · exact ⟨b, off, c, rfl⟩

set_option maxRecDepth 20000 in
set_option maxHeartbeats 1000000 in
theorem into_ge (H T : Int) (hH : 2 ≤ H) (hT : 3 ≤ T) (P Q : List Nat) (hle : Q.length ≤ P.length) (hb4 : P.length + Q.length ≤ 4398046511103) (hns : ¬ ((Q.length : Int) < H ∧ (Q.length : Int) < T)) (hI : ∀ X Y : List Nat, X.length + Y.length < P.length + Q.length → IntoOk H T X Y) : IntoOk H T P Q := by
  intro bz zo cap Z va vb w hB hLZ hAP hAQ ho ho2 hzo hc1 hc2
  have hQ0 : 2 ≤ Q.length := by omega
  obtain ⟨b, off, c1, rfl⟩ := hAP.addr (by omega)
  obtain ⟨b2, off2, c2, rfl⟩ := hAQ.addr (by omega)
  have hb := ho _ _ _ _ rfl
  have hb2 := ho2 _ _ _ _ rfl
  unfold way
  have hd0 : decide ((P.length : Int) < (Q.length : Int)) = false := decide_eq_false (by omega)
  obtain ⟨_, _, e0, hcc1, hcm1, _⟩ := hAP.form
  cases e0
  obtain ⟨_, _, e0, hcc2, hcm2, _⟩ := hAQ.form
  cases e0
  have fP := hAP.few
  have fQ := hAQ.few
  obtain ⟨hf, ehf, hf1, hf2⟩ : ∃ k : Nat, ((P.length : Int) + 1) / 2 = (k : Int) ∧ 2 * k ≤ P.length + 1 ∧ P.length ≤ 2 * k := ⟨(P.length + 1) / 2, by omega, by omega, by omega⟩
  obtain ⟨th, eth, ht1, ht2⟩ : ∃ k : Nat, ((P.length : Int) + 2) / 3 = (k : Int) ∧ 3 * k ≤ P.length + 2 ∧ P.length ≤ 3 * k := ⟨(P.length + 2) / 3, by omega, by omega, by omega⟩
  obtain ⟨t2, et2, ht3, ht4⟩ : ∃ k : Nat, (2 : Int) * (th : Int) = (k : Int) ∧ k ≤ 2 * th ∧ 2 * th ≤ k := ⟨2 * th, by omega, by omega, by omega⟩
  by_cases hTl : T ≤ (Q.length : Int)
  · have d1 : decide ((Q.length : Int) < T) = false := decide_eq_false (by omega)
    by_cases h2 : t2 ≤ Q.length
    · have i2 : (t2 : Int) ≤ (Q.length : Int) := by omega
      have HC := thirds_any H T bz zo cap th Z b off c1 b2 off2 c2 P Q (w.alloc (.cells #[.int .i64 H, .int .i64 T] 73)) (hB.alloc _) hLZ (hAP.more _) (hAQ.more _) hb hb2 hzo hc1 hc2 (by omega) (by omega) hle (by omega) (by omega) (by omega) hI
      unfold way at HC
      by_cases hHl : (Q.length : Int) < H
      · have d2 : decide ((Q.length : Int) < H) = true := decide_eq_true hHl
        go_enter Tryd.func72, Tryd.ntmps72
        go_wp2_with fail
        refine HC.mono ?_
        rintro e w2 hd
        have HD := hide (IntoDone.after hd (Fr.alloc bz w _))
        obtain ⟨he, _⟩ := hd
        subst he
        clear hAP hAQ hB HC
        go_wp2
        go_end0
        exact HD.out
      · have d2 : decide ((Q.length : Int) < H) = false := decide_eq_false hHl
        go_enter Tryd.func72, Tryd.ntmps72
        go_wp2_with fail
        refine HC.mono ?_
        rintro e w2 hd
        have HD := hide (IntoDone.after hd (Fr.alloc bz w _))
        obtain ⟨he, _⟩ := hd
        subst he
        clear hAP hAQ hB HC
        go_wp2
        go_end0
        exact HD.out
    · have i2 : decide ((t2 : Int) ≤ (Q.length : Int)) = false := decide_eq_false (by omega)
      have HC := pieces_any H T bz zo cap Z _ _ P Q (w.alloc (.cells #[.int .i64 H, .int .i64 T] 73)) (hB.alloc _) hLZ (hAP.more _) (hAQ.more _) (aside_of hb _ _) (aside_of hb2 _ _) hzo hc1 hc2 (by omega) (by omega) (fun t _ => hI _ _ (by simp; omega))
      unfold way at HC
      by_cases hHl : (Q.length : Int) < H
      · have d2 : decide ((Q.length : Int) < H) = true := decide_eq_true hHl
        go_enter Tryd.func72, Tryd.ntmps72
        go_wp2_with fail
        refine HC.mono ?_
        rintro e w2 hd
        have HD := hide (IntoDone.after hd (Fr.alloc bz w _))
        obtain ⟨he, _⟩ := hd
        subst he
        clear hAP hAQ hB HC
        go_wp2
        go_end0
        exact HD.out
      · have d2 : decide ((Q.length : Int) < H) = false := decide_eq_false hHl
        go_enter Tryd.func72, Tryd.ntmps72
        go_wp2_with fail
        refine HC.mono ?_
        rintro e w2 hd
        have HD := hide (IntoDone.after hd (Fr.alloc bz w _))
        obtain ⟨he, _⟩ := hd
        subst he
        clear hAP hAQ hB HC
        go_wp2
        go_end0
        exact HD.out
  · have d1 : (Q.length : Int) < T := by omega
    have d0 : decide (T ≤ (Q.length : Int)) = false := decide_eq_false (by omega)
    have d2 : decide ((Q.length : Int) < H) = false := decide_eq_false (by omega)
    by_cases h3 : hf < Q.length
    · have i3 : (hf : Int) < (Q.length : Int) := by omega
      have HC := halves_any H T bz zo cap hf Z b off c1 b2 off2 c2 P Q (w.alloc (.cells #[.int .i64 H, .int .i64 T] 73)) (hB.alloc _) hLZ (hAP.more _) (hAQ.more _) hb hb2 hzo hc1 hc2 (by omega) h3 hle (by omega) (by omega) hI
      unfold way at HC
      go_enter Tryd.func72, Tryd.ntmps72
      go_wp2_with fail
      refine HC.mono ?_
      rintro e w2 hd
      have HD := hide (IntoDone.after hd (Fr.alloc bz w _))
      obtain ⟨he, _⟩ := hd
      subst he
      clear hAP hAQ hB HC
      go_wp2
      go_end0
      exact HD.out
    · have i3 : decide ((hf : Int) < (Q.length : Int)) = false := decide_eq_false (by omega)
      have HC := pieces_any H T bz zo cap Z _ _ P Q (w.alloc (.cells #[.int .i64 H, .int .i64 T] 73)) (hB.alloc _) hLZ (hAP.more _) (hAQ.more _) (aside_of hb _ _) (aside_of hb2 _ _) hzo hc1 hc2 (by omega) (by omega) (fun t _ => hI _ _ (by simp; omega))
      unfold way at HC
      go_enter Tryd.func72, Tryd.ntmps72
      go_wp2_with fail
      refine HC.mono ?_
      rintro e w2 hd
      have HD := hide (IntoDone.after hd (Fr.alloc bz w _))
      obtain ⟨he, _⟩ := hd
      subst he
      clear hAP hAQ hB HC
      go_wp2
      go_end0
      exact HD.out

set_option maxRecDepth 20000 in
set_option maxHeartbeats 1000000 in
theorem into_lt (H T : Int) (hH : 2 ≤ H) (hT : 3 ≤ T) (P Q : List Nat) (hlt : Q.length < P.length) (hb4 : P.length + Q.length ≤ 4398046511103) (hns : ¬ ((Q.length : Int) < H ∧ (Q.length : Int) < T)) (hI : ∀ X Y : List Nat, X.length + Y.length < P.length + Q.length → IntoOk H T X Y) : IntoOk H T Q P := by
  intro bz zo cap Z va vb w hB hLZ hAQ hAP ho2 ho hzo hc1 hc2
  have hQ0 : 2 ≤ Q.length := by omega
  have hle : Q.length ≤ P.length := by omega
  obtain ⟨b, off, c1, rfl⟩ := hAP.addr (by omega)
  obtain ⟨b2, off2, c2, rfl⟩ := hAQ.addr (by omega)
  have hb := ho _ _ _ _ rfl
  have hb2 := ho2 _ _ _ _ rfl
  unfold way
  rw [Nat.add_comm Q.length, Nat.mul_comm (val Q)]
  rw [Nat.add_comm Q.length] at hzo hc1
  have hd0 : (Q.length : Int) < (P.length : Int) := by omega
  obtain ⟨_, _, e0, hcc1, hcm1, _⟩ := hAP.form
  cases e0
  obtain ⟨_, _, e0, hcc2, hcm2, _⟩ := hAQ.form
  cases e0
  have fP := hAP.few
  have fQ := hAQ.few
  obtain ⟨hf, ehf, hf1, hf2⟩ : ∃ k : Nat, ((P.length : Int) + 1) / 2 = (k : Int) ∧ 2 * k ≤ P.length + 1 ∧ P.length ≤ 2 * k := ⟨(P.length + 1) / 2, by omega, by omega, by omega⟩
  obtain ⟨th, eth, ht1, ht2⟩ : ∃ k : Nat, ((P.length : Int) + 2) / 3 = (k : Int) ∧ 3 * k ≤ P.length + 2 ∧ P.length ≤ 3 * k := ⟨(P.length + 2) / 3, by omega, by omega, by omega⟩
  obtain ⟨t2, et2, ht3, ht4⟩ : ∃ k : Nat, (2 : Int) * (th : Int) = (k : Int) ∧ k ≤ 2 * th ∧ 2 * th ≤ k := ⟨2 * th, by omega, by omega, by omega⟩
  by_cases hTl : T ≤ (Q.length : Int)
  · have d1 : decide ((Q.length : Int) < T) = false := decide_eq_false (by omega)
    by_cases h2 : t2 ≤ Q.length
    · have i2 : (t2 : Int) ≤ (Q.length : Int) := by omega
      have HC := thirds_any H T bz zo cap th Z b off c1 b2 off2 c2 P Q (w.alloc (.cells #[.int .i64 H, .int .i64 T] 73)) (hB.alloc _) hLZ (hAP.more _) (hAQ.more _) hb hb2 hzo hc1 hc2 (by omega) (by omega) hle (by omega) (by omega) (by omega) hI
      unfold way at HC
      by_cases hHl : (Q.length : Int) < H
      · have d2 : decide ((Q.length : Int) < H) = true := decide_eq_true hHl
        go_enter Tryd.func72, Tryd.ntmps72
        go_wp2_with fail
        refine HC.mono ?_
        rintro e w2 hd
        have HD := hide (IntoDone.after hd (Fr.alloc bz w _))
        obtain ⟨he, _⟩ := hd
        subst he
        clear hAP hAQ hB HC
        go_wp2
        go_end0
        exact HD.out
      · have d2 : decide ((Q.length : Int) < H) = false := decide_eq_false hHl
        go_enter Tryd.func72, Tryd.ntmps72
        go_wp2_with fail
        refine HC.mono ?_
        rintro e w2 hd
        have HD := hide (IntoDone.after hd (Fr.alloc bz w _))
        obtain ⟨he, _⟩ := hd
        subst he
        clear hAP hAQ hB HC
        go_wp2
        go_end0
        exact HD.out
    · have i2 : decide ((t2 : Int) ≤ (Q.length : Int)) = false := decide_eq_false (by omega)
      have HC := pieces_any H T bz zo cap Z _ _ P Q (w.alloc (.cells #[.int .i64 H, .int .i64 T] 73)) (hB.alloc _) hLZ (hAP.more _) (hAQ.more _) (aside_of hb _ _) (aside_of hb2 _ _) hzo hc1 hc2 (by omega) (by omega) (fun t _ => hI _ _ (by simp; omega))
      unfold way at HC
      by_cases hHl : (Q.length : Int) < H
      · have d2 : decide ((Q.length : Int) < H) = true := decide_eq_true hHl
        go_enter Tryd.func72, Tryd.ntmps72
        go_wp2_with fail
        refine HC.mono ?_
        rintro e w2 hd
        have HD := hide (IntoDone.after hd (Fr.alloc bz w _))
        obtain ⟨he, _⟩ := hd
        subst he
        clear hAP hAQ hB HC
        go_wp2
        go_end0
        exact HD.out
      · have d2 : decide ((Q.length : Int) < H) = false := decide_eq_false hHl
        go_enter Tryd.func72, Tryd.ntmps72
        go_wp2_with fail
        refine HC.mono ?_
        rintro e w2 hd
        have HD := hide (IntoDone.after hd (Fr.alloc bz w _))
        obtain ⟨he, _⟩ := hd
        subst he
        clear hAP hAQ hB HC
        go_wp2
        go_end0
        exact HD.out
  · have d1 : (Q.length : Int) < T := by omega
    have d0 : decide (T ≤ (Q.length : Int)) = false := decide_eq_false (by omega)
    have d2 : decide ((Q.length : Int) < H) = false := decide_eq_false (by omega)
    by_cases h3 : hf < Q.length
    · have i3 : (hf : Int) < (Q.length : Int) := by omega
      have HC := halves_any H T bz zo cap hf Z b off c1 b2 off2 c2 P Q (w.alloc (.cells #[.int .i64 H, .int .i64 T] 73)) (hB.alloc _) hLZ (hAP.more _) (hAQ.more _) hb hb2 hzo hc1 hc2 (by omega) h3 hle (by omega) (by omega) hI
      unfold way at HC
      go_enter Tryd.func72, Tryd.ntmps72
      go_wp2_with fail
      refine HC.mono ?_
      rintro e w2 hd
      have HD := hide (IntoDone.after hd (Fr.alloc bz w _))
      obtain ⟨he, _⟩ := hd
      subst he
      clear hAP hAQ hB HC
      go_wp2
      go_end0
      exact HD.out
    · have i3 : decide ((hf : Int) < (Q.length : Int)) = false := decide_eq_false (by omega)
      have HC := pieces_any H T bz zo cap Z _ _ P Q (w.alloc (.cells #[.int .i64 H, .int .i64 T] 73)) (hB.alloc _) hLZ (hAP.more _) (hAQ.more _) (aside_of hb _ _) (aside_of hb2 _ _) hzo hc1 hc2 (by omega) (by omega) (fun t _ => hI _ _ (by simp; omega))
      unfold way at HC
      go_enter Tryd.func72, Tryd.ntmps72
      go_wp2_with fail
      refine HC.mono ?_
      rintro e w2 hd
      have HD := hide (IntoDone.after hd (Fr.alloc bz w _))
      obtain ⟨he, _⟩ := hd
      subst he
      clear hAP hAQ hB HC
      go_wp2
      go_end0
      exact HD.out

/-- 'into' does what it should, whatever the two lists. -/
theorem into_ok (H T : Int) (hH : 2 ≤ H) (hT : 3 ≤ T) : ∀ (k : Nat) (X Y : List Nat), X.length + Y.length ≤ k → k ≤ 4398046511103 → IntoOk H T X Y := by
  intro k
  induction k with
  | zero =>
    intro X Y h _
    exact into_ok_school H T X Y (.inr ⟨by omega, by omega, by omega⟩)
  | succ k ih =>
    intro X Y h hk
    have hI : ∀ P Q : List Nat, P.length + Q.length < X.length + Y.length → IntoOk H T P Q := fun P Q hl => ih P Q (by omega) (by omega)
    by_cases hlt : X.length < Y.length
    · by_cases hs : (X.length : Int) < H ∧ (X.length : Int) < T
      · exact into_ok_school H T X Y (.inl ⟨hlt, hs⟩)
      · exact into_lt H T hH hT Y X hlt (by omega) hs (fun P Q hl => hI P Q (by omega))
    · by_cases hs : (Y.length : Int) < H ∧ (Y.length : Int) < T
      · exact into_ok_school H T X Y (.inr ⟨by omega, hs⟩)
      · exact into_ge H T hH hT X Y (by omega) (by omega) hs hI

end Go.Proofs.YtmloigbacfllhaaDoor
