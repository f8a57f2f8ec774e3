/- Package mul: into, of any two lists. -/
import Derived.Test.YtppblbhkghjphaaGreatDoorQE
import Derived.Test.YtppblbhkghjphaaGreatDoorQD
import Derived.Test.YtppblbhkghjphaaGreatDoorQC
import Derived.Test.YtppblbhkghjphaaGreatDoorQA
namespace Go.Proofs.YtppblbhkghjphaaGreatDoor
open Go.RowKit
open Lm

theorem Arg.addr {w : World} {v : Value} {X : List Nat} (h : Arg w v X) (h0 : 0 < X.length) : ∃ b off c, v = .slice (some ⟨b, off, none⟩) X.length c := by
  obtain ⟨ao, c, rfl, _, _, hl⟩ := h.form
  rcases hl with h1 | ⟨b, off, rfl, _⟩
  · rw [h1] at h0; simp at h0
  · exact ⟨b, off, c, rfl⟩

set_option maxRecDepth 20000 in
set_option maxHeartbeats 1000000 in
theorem into_ge (H T : Int) (hH : 2 ≤ H) (hT : 3 ≤ T) (P Q : List Nat) (hle : Q.length ≤ P.length) (hb4 : P.length + Q.length ≤ 4398046511103) (hns : ¬ ((Q.length : Int) < H ∧ (Q.length : Int) < T)) (hI : ∀ X Y : List Nat, X.length + Y.length < P.length + Q.length → IntoOk H T X Y) : IntoOk H T P Q := by
  intro bz zo cap Z va vb w hB hLZ hAP hAQ ho ho2 hzo hc1 hc2
  have hQ0 : 2 ≤ Q.length := by omega
  obtain ⟨b, off, c1, rfl⟩ := hAP.addr (by omega)
  obtain ⟨b2, off2, c2, rfl⟩ := hAQ.addr (by omega)
  have hb := ho _ _ _ _ rfl
  have hb2 := ho2 _ _ _ _ rfl
  unfold way
  have hd0 : decide ((P.length : Int) < (Q.length : Int)) = false := decide_eq_false (by omega)
  obtain ⟨_, _, e0, hcc1, hcm1, _⟩ := hAP.form
  cases e0
  obtain ⟨_, _, e0, hcc2, hcm2, _⟩ := hAQ.form
  cases e0
  have fP := hAP.few
  have fQ := hAQ.few
  obtain ⟨hf, ehf, hf1, hf2⟩ : ∃ k : Nat, ((P.length : Int) + 1) / 2 = (k : Int) ∧ 2 * k ≤ P.length + 1 ∧ P.length ≤ 2 * k := ⟨(P.length + 1) / 2, by omega, by omega, by omega⟩
  obtain ⟨th, eth, ht1, ht2⟩ : ∃ k : Nat, ((P.length : Int) + 2) / 3 = (k : Int) ∧ 3 * k ≤ P.length + 2 ∧ P.length ≤ 3 * k := ⟨(P.length + 2) / 3, by omega, by omega, by omega⟩
  obtain ⟨t2, et2, ht3, ht4⟩ : ∃ k : Nat, (2 : Int) * (th : Int) = (k : Int) ∧ k ≤ 2 * th ∧ 2 * th ≤ k := ⟨2 * th, by omega, by omega, by omega⟩
  by_cases hTl : T ≤ (Q.length : Int)
  · have d1 : decide ((Q.length : Int) < T) = false := decide_eq_false (by omega)
    by_cases h2 : t2 ≤ Q.length
    · have i2 : (t2 : Int) ≤ (Q.length : Int) := by omega
      have HC := thirds_any H T bz zo cap th Z b off c1 b2 off2 c2 P Q (w.alloc (.cells #[.int .i64 H, .int .i64 T] 128)) (hB.alloc _) hLZ (hAP.more _) (hAQ.more _) hb hb2 hzo hc1 hc2 (by omega) (by omega) hle (by omega) (by omega) (by omega) hI
      unfold way at HC
      by_cases hHl : (Q.length : Int) < H
      · have d2 : decide ((Q.length : Int) < H) = true := decide_eq_true hHl
        go_enter Tryz.func122, Tryz.ntmps122
        go_wp2_with fail
        refine HC.mono ?_
        rintro e w2 hd
        have HD := hide (IntoDone.after hd (Fr.alloc bz w _))
        obtain ⟨he, _⟩ := hd
        subst he
        clear hAP hAQ hB HC
        go_wp2
        go_end0
        exact HD.out
      · have d2 : decide ((Q.length : Int) < H) = false := decide_eq_false hHl
        go_enter Tryz.func122, Tryz.ntmps122
        go_wp2_with fail
        refine HC.mono ?_
        rintro e w2 hd
        have HD := hide (IntoDone.after hd (Fr.alloc bz w _))
        obtain ⟨he, _⟩ := hd
        subst he
        clear hAP hAQ hB HC
        go_wp2
        go_end0
        exact HD.out
    · have i2 : decide ((t2 : Int) ≤ (Q.length : Int)) = false := decide_eq_false (by omega)
      have HC := pieces_any H T bz zo cap Z _ _ P Q (w.alloc (.cells #[.int .i64 H, .int .i64 T] 128)) (hB.alloc _) hLZ (hAP.more _) (hAQ.more _) (aside_of hb _ _) (aside_of hb2 _ _) hzo hc1 hc2 (by omega) (by omega) (fun t _ => hI _ _ (by simp; omega))
      unfold way at HC
      by_cases hHl : (Q.length : Int) < H
      · have d2 : decide ((Q.length : Int) < H) = true := decide_eq_true hHl
        go_enter Tryz.func122, Tryz.ntmps122
        go_wp2_with fail
        refine HC.mono ?_
        rintro e w2 hd
        have HD := hide (IntoDone.after hd (Fr.alloc bz w _))
        obtain ⟨he, _⟩ := hd
        subst he
        clear hAP hAQ hB HC
        go_wp2
        go_end0
        exact HD.out
      · have d2 : decide ((Q.length : Int) < H) = false := decide_eq_false hHl
        go_enter Tryz.func122, Tryz.ntmps122
        go_wp2_with fail
        refine HC.mono ?_
        rintro e w2 hd
        have HD := hide (IntoDone.after hd (Fr.alloc bz w _))
        obtain ⟨he, _⟩ := hd
        subst he
        clear hAP hAQ hB HC
        go_wp2
        go_end0
        exact HD.out
  · have d1 : (Q.length : Int) < T := by omega
    have d0 : decide (T ≤ (Q.length : Int)) = false := decide_eq_false (by omega)
    have d2 : decide ((Q.length : Int) < H) = false := decide_eq_false (by omega)
    by_cases h3 : hf < Q.length
    · have i3 : (hf : Int) < (Q.length : Int) := by omega
      have HC := halves_any H T bz zo cap hf Z b off c1 b2 off2 c2 P Q (w.alloc (.cells #[.int .i64 H, .int .i64 T] 128)) (hB.alloc _) hLZ (hAP.more _) (hAQ.more _) hb hb2 hzo hc1 hc2 (by omega) h3 hle (by omega) (by omega) hI
      unfold way at HC
      go_enter Tryz.func122, Tryz.ntmps122
      go_wp2_with fail
      refine HC.mono ?_
      rintro e w2 hd
      have HD := hide (IntoDone.after hd (Fr.alloc bz w _))
      obtain ⟨he, _⟩ := hd
      subst he
      clear hAP hAQ hB HC
      go_wp2
      go_end0
      exact HD.out
    · have i3 : decide ((hf : Int) < (Q.length : Int)) = false := decide_eq_false (by omega)
      have HC := pieces_any H T bz zo cap Z _ _ P Q (w.alloc (.cells #[.int .i64 H, .int .i64 T] 128)) (hB.alloc _) hLZ (hAP.more _) (hAQ.more _) (aside_of hb _ _) (aside_of hb2 _ _) hzo hc1 hc2 (by omega) (by omega) (fun t _ => hI _ _ (by simp; omega))
      unfold way at HC
      go_enter Tryz.func122, Tryz.ntmps122
      go_wp2_with fail
      refine HC.mono ?_
      rintro e w2 hd
      have HD := hide (IntoDone.after hd (Fr.alloc bz w _))
      obtain ⟨he, _⟩ := hd
      subst he
      clear hAP hAQ hB HC
      go_wp2
      go_end0
      exact HD.out

set_option maxRecDepth 20000 in
set_option maxHeartbeats 1000000 in
theorem into_lt (H T : Int) (hH : 2 ≤ H) (hT : 3 ≤ T) (P Q : List Nat) (hlt : Q.length < P.length) (hb4 : P.length + Q.length ≤ 4398046511103) (hns : ¬ ((Q.length : Int) < H ∧ (Q.length : Int) < T)) (hI : ∀ X Y : List Nat, X.length + Y.length < P.length + Q.length → IntoOk H T X Y) : IntoOk H T Q P := by
  intro bz zo cap Z va vb w hB hLZ hAQ hAP ho2 ho hzo hc1 hc2
  have hQ0 : 2 ≤ Q.length := by omega
  have hle : Q.length ≤ P.length := by omega
  obtain ⟨b, off, c1, rfl⟩ := hAP.addr (by omega)
  obtain ⟨b2, off2, c2, rfl⟩ := hAQ.addr (by omega)
  have hb := ho _ _ _ _ rfl
  have hb2 := ho2 _ _ _ _ rfl
  unfold way
  rw [Nat.add_comm Q.length, Nat.mul_comm (val Q)]
  rw [Nat.add_comm Q.length] at hzo hc1
  have hd0 : (Q.length : Int) < (P.length : Int) := by omega
  obtain ⟨_, _, e0, hcc1, hcm1, _⟩ := hAP.form
  cases e0
  obtain ⟨_, _, e0, hcc2, hcm2, _⟩ := hAQ.form
  cases e0
  have fP := hAP.few
  have fQ := hAQ.few
  obtain ⟨hf, ehf, hf1, hf2⟩ : ∃ k : Nat, ((P.length : Int) + 1) / 2 = (k : Int) ∧ 2 * k ≤ P.length + 1 ∧ P.length ≤ 2 * k := ⟨(P.length + 1) / 2, by omega, by omega, by omega⟩
  obtain ⟨th, eth, ht1, ht2⟩ : ∃ k : Nat, ((P.length : Int) + 2) / 3 = (k : Int) ∧ 3 * k ≤ P.length + 2 ∧ P.length ≤ 3 * k := ⟨(P.length + 2) / 3, by omega, by omega, by omega⟩
  obtain ⟨t2, et2, ht3, ht4⟩ : ∃ k : Nat, (2 : Int) * (th : Int) = (k : Int) ∧ k ≤ 2 * th ∧ 2 * th ≤ k := ⟨2 * th, by omega, by omega, by omega⟩
  by_cases hTl : T ≤ (Q.length : Int)
  · have d1 : decide ((Q.length : Int) < T) = false := decide_eq_false (by omega)
    by_cases h2 : t2 ≤ Q.length
    · have i2 : (t2 : Int) ≤ (Q.length : Int) := by omega
      have HC := thirds_any H T bz zo cap th Z b off c1 b2 off2 c2 P Q (w.alloc (.cells #[.int .i64 H, .int .i64 T] 128)) (hB.alloc _) hLZ (hAP.more _) (hAQ.more _) hb hb2 hzo hc1 hc2 (by omega) (by omega) hle (by omega) (by omega) (by omega) hI
      unfold way at HC
      by_cases hHl : (Q.length : Int) < H
      · have d2 : decide ((Q.length : Int) < H) = true := decide_eq_true hHl
        go_enter Tryz.func122, Tryz.ntmps122
        go_wp2_with fail
        refine HC.mono ?_
        rintro e w2 hd
        have HD := hide (IntoDone.after hd (Fr.alloc bz w _))
        obtain ⟨he, _⟩ := hd
        subst he
        clear hAP hAQ hB HC
        go_wp2
        go_end0
        exact HD.out
      · have d2 : decide ((Q.length : Int) < H) = false := decide_eq_false hHl
        go_enter Tryz.func122, Tryz.ntmps122
        go_wp2_with fail
        refine HC.mono ?_
        rintro e w2 hd
        have HD := hide (IntoDone.after hd (Fr.alloc bz w _))
        obtain ⟨he, _⟩ := hd
        subst he
        clear hAP hAQ hB HC
        go_wp2
        go_end0
        exact HD.out
    · have i2 : decide ((t2 : Int) ≤ (Q.length : Int)) = false := decide_eq_false (by omega)
      have HC := pieces_any H T bz zo cap Z _ _ P Q (w.alloc (.cells #[.int .i64 H, .int .i64 T] 128)) (hB.alloc _) hLZ (hAP.more _) (hAQ.more _) (aside_of hb _ _) (aside_of hb2 _ _) hzo hc1 hc2 (by omega) (by omega) (fun t _ => hI _ _ (by simp; omega))
      unfold way at HC
      by_cases hHl : (Q.length : Int) < H
      · have d2 : decide ((Q.length : Int) < H) = true := decide_eq_true hHl
        go_enter Tryz.func122, Tryz.ntmps122
        go_wp2_with fail
        refine HC.mono ?_
        rintro e w2 hd
        have HD := hide (IntoDone.after hd (Fr.alloc bz w _))
        obtain ⟨he, _⟩ := hd
        subst he
        clear hAP hAQ hB HC
        go_wp2
        go_end0
        exact HD.out
      · have d2 : decide ((Q.length : Int) < H) = false := decide_eq_false hHl
        go_enter Tryz.func122, Tryz.ntmps122
        go_wp2_with fail
        refine HC.mono ?_
        rintro e w2 hd
        have HD := hide (IntoDone.after hd (Fr.alloc bz w _))
        obtain ⟨he, _⟩ := hd
        subst he
        clear hAP hAQ hB HC
        go_wp2
        go_end0
        exact HD.out
  · have d1 : (Q.length : Int) < T := by omega
    have d0 : decide (T ≤ (Q.length : Int)) = false := decide_eq_false (by omega)
    have d2 : decide ((Q.length : Int) < H) = false := decide_eq_false (by omega)
    by_cases h3 : hf < Q.length
    · have i3 : (hf : Int) < (Q.length : Int) := by omega
      have HC := halves_any H T bz zo cap hf Z b off c1 b2 off2 c2 P Q (w.alloc (.cells #[.int .i64 H, .int .i64 T] 128)) (hB.alloc _) hLZ (hAP.more _) (hAQ.more _) hb hb2 hzo hc1 hc2 (by omega) h3 hle (by omega) (by omega) hI
      unfold way at HC
      go_enter Tryz.func122, Tryz.ntmps122
      go_wp2_with fail
      refine HC.mono ?_
      rintro e w2 hd
      have HD := hide (IntoDone.after hd (Fr.alloc bz w _))
      obtain ⟨he, _⟩ := hd
      subst he
      clear hAP hAQ hB HC
      go_wp2
      go_end0
      exact HD.out
    · have i3 : decide ((hf : Int) < (Q.length : Int)) = false := decide_eq_false (by omega)
      have HC := pieces_any H T bz zo cap Z _ _ P Q (w.alloc (.cells #[.int .i64 H, .int .i64 T] 128)) (hB.alloc _) hLZ (hAP.more _) (hAQ.more _) (aside_of hb _ _) (aside_of hb2 _ _) hzo hc1 hc2 (by omega) (by omega) (fun t _ => hI _ _ (by simp; omega))
      unfold way at HC
      go_enter Tryz.func122, Tryz.ntmps122
      go_wp2_with fail
      refine HC.mono ?_
      rintro e w2 hd
      have HD := hide (IntoDone.after hd (Fr.alloc bz w _))
      obtain ⟨he, _⟩ := hd
      subst he
      clear hAP hAQ hB HC
      go_wp2
      go_end0
      exact HD.out

/-- 'into' does what it should, whatever the two lists. -/
theorem into_ok (H T : Int) (hH : 2 ≤ H) (hT : 3 ≤ T) : ∀ (k : Nat) (X Y : List Nat), X.length + Y.length ≤ k → k ≤ 4398046511103 → IntoOk H T X Y := by
  intro k
  induction k with
  | zero =>
    intro X Y h _
    exact into_ok_school H T X Y (.inr ⟨by omega, by omega, by omega⟩)
  | succ k ih =>
    intro X Y h hk
    have hI : ∀ P Q : List Nat, P.length + Q.length < X.length + Y.length → IntoOk H T P Q := fun P Q hl => ih P Q (by omega) (by omega)
    by_cases hlt : X.length < Y.length
    · by_cases hs : (X.length : Int) < H ∧ (X.length : Int) < T
      · exact into_ok_school H T X Y (.inl ⟨hlt, hs⟩)
      · exact into_lt H T hH hT Y X hlt (by omega) hs (fun P Q hl => hI P Q (by omega))
    · by_cases hs : (Y.length : Int) < H ∧ (Y.length : Int) < T
      · exact into_ok_school H T X Y (.inr ⟨by omega, hs⟩)
      · exact into_ge H T hH hT X Y (by omega) (by omega) hs hI

end Go.Proofs.YtppblbhkghjphaaGreatDoor

/- Package mul: products with 0. -/
namespace Go.Proofs.YtppblbhkghjphaaGreatDoor
open Go.RowKit
open Lm

set_option maxHeartbeats 400000 in
theorem school_nil (bz zo n cap : Nat) (Z : List Nat) (va : Value) (a2 : Option Addr) (c2 : Nat) (w : World) (hB : Blk w bz Z) (hLZ : Limbs Z) (hzo : zo + n ≤ Z.length) :
    Calls Tryz.prog 123 #[.slice (some ⟨bz, zo, none⟩) n cap, va, .slice a2 0 c2] w (IntoDone bz zo n Z w 0) := by
  obtain ⟨w1, Z1, hrun, hO, hL, hB1, hF, hS⟩ := clear_any bz zo n cap Z w hB hLZ hzo
  have HD := hide (show IntoDone bz zo n Z w 0 (.returned (.tuple #[])) w1 from ⟨rfl, Z1, hO, hL, hB1, hF, hS⟩)
  clear hO hL hB1 hF hS hB hLZ
  go_enter Tryz.func123, Tryz.ntmps123
  go_wp2
  refine wp_loop_rounds 1 ?_
  rw [rounds_succ]
  go_wp2
  go_end0
  exact HD.out

set_option maxHeartbeats 800000 in
theorem into_nil (H T : Int) (hH : 1 ≤ H) (hT : 1 ≤ T) (bz zo n cap : Nat) (Z : List Nat) (a1 : Option Addr) (l1 c1 : Nat) (a2 : Option Addr) (l2 c2 : Nat) (w : World) (hB : Blk w bz Z) (hLZ : Limbs Z) (hz : l1 = 0 ∨ l2 = 0) (hl1 : l1 ≤ 1125899906842624) (hl2 : l2 ≤ 1125899906842624) (hzo : zo + n ≤ Z.length) :
    Calls Tryz.prog 122 #[way H T, .slice (some ⟨bz, zo, none⟩) n cap, .slice a1 l1 c1, .slice a2 l2 c2] w (IntoDone bz zo n Z w 0) := by
  unfold way
  have i1 : (0 : Int) < H := by omega
  have i2 : (0 : Int) < T := by omega
  by_cases h2 : l2 = 0
  · subst h2
    have hd0 : decide ((l1 : Int) < 0) = false := decide_eq_false (by omega)
    have HS := school_nil bz zo n cap Z (.slice a1 l1 c1) a2 c2 (w.alloc (.cells #[.int .i64 H, .int .i64 T] 128)) (hB.alloc _) hLZ hzo
    clear hz
    go_enter Tryz.func122, Tryz.ntmps122
    go_wp2_with fail
    refine HS.mono ?_
    rintro e w2 hd
    have HD := hide (IntoDone.after hd (Fr.alloc bz w _))
    obtain ⟨he, _⟩ := hd
    subst he
    clear HS hB
    go_wp2
    go_end0
    exact HD.out
  · have h1 : l1 = 0 := by omega
    subst h1
    have hd0 : (0 : Int) < (l2 : Int) := by omega
    have HS := school_nil bz zo n cap Z (.slice a2 l2 c2) a1 c1 (w.alloc (.cells #[.int .i64 H, .int .i64 T] 128)) (hB.alloc _) hLZ hzo
    clear hz
    go_enter Tryz.func122, Tryz.ntmps122
    go_wp2_with fail
    refine HS.mono ?_
    rintro e w2 hd
    have HD := hide (IntoDone.after hd (Fr.alloc bz w _))
    obtain ⟨he, _⟩ := hd
    subst he
    clear HS hB
    go_wp2
    go_end0
    exact HD.out

theorem sv_none (Z : List Nat) (N s M : Nat) (hM : s + M ≤ N) (hM2 : N ≤ s + M) (ho : Out (List.replicate N 0) Z s (s + M)) (hs : sv Z s M = 0) : val Z = 0 := by
  have hl : Z.length = N := by rw [ho.len]; simp
  have e0 : sv Z 0 s = 0 := by
    rw [ho.sv 0 s (by omega)]
    unfold sv seg
    rw [List.drop_replicate, List.take_replicate, val_replicate]
  have e1 : sv Z 0 (s + M) = val Z := by rw [show s + M = Z.length by omega, sv_all]
  rw [sv_split _ _ _ _ (by omega), e0, Nat.zero_add, Nat.zero_add, hs, Nat.mul_zero] at e1
  exact e1.symm

set_option maxRecDepth 20000 in
set_option maxHeartbeats 1000000 in
theorem whole_zero (H T : Int) (hH : 1 ≤ H) (hTT : 1 ≤ T) (va vb : Value) (X Y : List Nat) (w : World) (hA : Arg w va X) (hA2 : Arg w vb Y) (hT : Tab w) (hXY : val X = 0 ∨ val Y = 0) (hf : X.length + Y.length ≤ 35184372088831) :
    Calls Tryz.prog 119 #[way H T, va, vb] w (WholeDone w 0 (X.length + Y.length)) := by
  unfold way
  obtain ⟨a1, c1, rfl, hcc1, hcm1, hl1⟩ := hA.form
  obtain ⟨a2, c2, rfl, hcc2, hcm2, hl2⟩ := hA2.form
  have lX := tr_length_le X
  have lY := tr_length_le Y
  have hXY0 : (tr X).length = 0 ∨ (tr Y).length = 0 := by
    rcases hXY with h | h
    · left; have := tr_len_lt X 0 (by rw [h]; simp); omega
    · right; have := tr_len_lt Y 0 (by rw [h]; simp); omega
  obtain ⟨i0, hi, hz0, hz1, hz2⟩ := info_parts Tryz.infoU
  obtain ⟨w1, hw1⟩ : ∃ w1, w1 = w.alloc (.cells #[.int .i64 H, .int .i64 T] 128) := ⟨_, rfl⟩
  have hbel1 : Below w.heap.size w w1 := by rw [hw1]; exact (Below.refl _ _).alloc (Nat.le_refl _) _
  have hs1 : w1.heap.size = w.heap.size + 1 := by rw [hw1]; simp
  have hb1 : w1.heap[w.heap.size]? = some (.cells #[.int .i64 H, .int .i64 T] 128) := by rw [hw1]; exact heap_alloc_new ..
  have hc0 : w1.cell? ⟨w.heap.size, 0, none⟩ = some (.int .i64 H) := by simp [World.cell?, hb1]
  have hc1 : w1.cell? ⟨w.heap.size, 1, none⟩ = some (.int .i64 T) := by simp [World.cell?, hb1]
  have B1 := hide hbel1
  have HW1 := hide hw1
  have A1 := (hA.below hbel1).trim
  have A2 := (hA2.below hbel1).trim
  have hT1 := hT.below hbel1
  have H1 := mtrim_any a1 c1 X w1 hcc1 hcm1 (hl1.below hbel1)
  have H2 := mtrim_any a2 c2 Y w1 hcc2 hcm2 (hl2.below hbel1)
  clear hA hA2 hT hl1 hl2 hXY hw1 hbel1
  generalize tr X = P at *
  generalize tr Y = Q at *
  obtain ⟨N, hN1, hN2, eN⟩ : ∃ N : Nat, N ≤ P.length + Q.length ∧ P.length + Q.length ≤ N ∧ (P.length : Int) + (Q.length : Int) = (N : Int) := ⟨P.length + Q.length, by omega, by omega, by omega⟩
  go_enter Tryz.func119, Tryz.ntmps119
  go_wp2_with fail
  rw [← HW1.out]
  refine H1.mono ?_
  rintro e w2 ⟨rfl, hw⟩; subst hw
  go_wp2_with fail
  refine H2.mono ?_
  rintro e w3 ⟨rfl, hw⟩; subst hw
  clear H1 H2
  go_wp2_with (at_make; refine wpList_make_full _ rfl _ _ 24 rfl w3.heap.size 32 i0 (.int .u64 0) 1 Tryz.underlying24 hi hz0 hz1 .i64 .i64 _ _ N rfl rfl (by omega) (by omega) (by rw [hz2]; omega) (by unfold maxLen; omega) (Nat.le_refl _) ?_; intro w4 hown hgrow)
  have hb4 := Blk.made hown
  rw [hs1] at hb4
  have hbel4 : Below w3.heap.size w3 w4 := (Below.refl _ _).grown hgrow (Nat.le_refl _) (fun k hk => by cases hk)
  have hs4 : w3.heap.size < w4.heap.size := by rw [hs1]; exact hb4.lt
  clear hown hgrow hi hz0 hz1 hz2
  have B4 : Hid (Below w.heap.size w w4) := B1.out.trans (hbel4.mono (by omega))
  replace A1 := A1.below hbel4
  replace A2 := A2.below hbel4
  replace hT1 := hT1.below hbel4
  have hc04 : w4.cell? ⟨w.heap.size, 0, none⟩ = some (.int .i64 H) := by rw [hbel4.cell (p := ⟨w.heap.size, 0, none⟩) (by show w.heap.size < _; omega)]; exact hc0
  have hc14 : w4.cell? ⟨w.heap.size, 1, none⟩ = some (.int .i64 T) := by rw [hbel4.cell (p := ⟨w.heap.size, 1, none⟩) (by show w.heap.size < _; omega)]; exact hc1
  clear hc0 hc1 hb1 B1 HW1 hbel4
  refine (tail_weak _ _ _ A1 hT1).mono ?_
  rintro e w5 ⟨⟨t, ht, rfl⟩, hw⟩; subst hw
  have li := low0_le P
  generalize low0 P = i at *
  obtain ⟨ti, eti⟩ : ∃ ti : Nat, ti = i * 64 + t := ⟨_, rfl⟩
  have eI : (ti : Int) / 64 = (i : Int) := by omega
  have fP := A1.few
  have fQ := A2.few
  have hti : ti ≤ 9223372036854775807 := by omega
  rw [← eti]
  clear eti ht
  go_wp2_with fail
  refine (tail_weak _ _ _ A2 hT1).mono ?_
  rintro e w6 ⟨⟨u, hu, rfl⟩, hw⟩; subst hw
  have lj := low0_le Q
  generalize low0 Q = j at *
  obtain ⟨tj, etj⟩ : ∃ tj : Nat, tj = j * 64 + u := ⟨_, rfl⟩
  have eJ : (tj : Int) / 64 = (j : Int) := by omega
  have htj : tj ≤ 9223372036854775807 := by omega
  rw [← etj]
  clear etj hu hT1 A1 A2
  obtain ⟨g, hg⟩ : ∃ g, g = w.heap.size + 1 := ⟨_, rfl⟩
  obtain ⟨s, eS, hSa, hSb⟩ : ∃ s : Nat, (i : Int) + (j : Int) = (s : Int) ∧ s ≤ i + j ∧ i + j ≤ s := ⟨i + j, by omega, by omega, by omega⟩
  obtain ⟨M, hM1, hM2⟩ : ∃ M : Nat, s + M ≤ N ∧ N ≤ s + M := ⟨N - s, by omega, by omega⟩
  have eM : N - s = M := by omega
  obtain ⟨zh, ezh, hzh⟩ : ∃ zh : Nat, (if N = s then (some ⟨g, 0, none⟩ : Option Addr) else some ⟨g, s, none⟩) = some ⟨g, zh, none⟩ ∧ (zh = s ∨ (zh = 0 ∧ M = 0)) := by
    by_cases hc : N = s
    · exact ⟨0, by rw [if_pos hc], .inr ⟨rfl, by omega⟩⟩
    · exact ⟨s, by rw [if_neg hc], .inl rfl⟩
  have HIN := fun (b1 : Option Addr) (k1 : Nat) (b2 : Option Addr) (k2 : Nat) => into_nil H T hH hTT g zh M M (List.replicate N 0) b1 (P.length - i) k1 b2 (Q.length - j) k2 w6.drew (by rw [hg]; exact hb4) (limbs_replicate _) (by omega) (by omega) (by omega) (by simp; omega)
  have wS : IntKind.i64.wrap (s : Int) = (s : Int) := by rw [IntKind.wrap_i64]; omega
  have k1 : (0 : Int) ≤ (s : Int) := by omega
  have k2 : (s : Int) ≤ (N : Int) := by omega
  have k3 : (0 : Int) ≤ (i : Int) := by omega
  have k4 : (i : Int) ≤ (P.length : Int) := by omega
  have k5 : (0 : Int) ≤ (j : Int) := by omega
  have k6 : (j : Int) ≤ (Q.length : Int) := by omega
  have k7 : (i : Int) ≤ (c1 : Int) := by omega
  have k8 : (j : Int) ≤ (c2 : Int) := by omega
  rw [← hg]
  have HG := hide hg
  have HZH := hide hzh
  clear hg hzh
  unfold way at HIN
  have HK := hide (fun (w7 : World) (hF : Fr g w6.drew w7) => (⟨by rw [World.cell?_of_block (w := w6.drew) (hF.block w.heap.size (by show _ < w6.heap.size; have := HG.out; omega) (by have := HG.out; omega))]; exact hc04, by rw [World.cell?_of_block (w := w6.drew) (hF.block w.heap.size (by show _ < w6.heap.size; have := HG.out; omega) (by have := HG.out; omega))]; exact hc14⟩ : w7.cell? ⟨w.heap.size, 0, none⟩ = some (.int .i64 H) ∧ w7.cell? ⟨w.heap.size, 1, none⟩ = some (.int .i64 T)))
  by_cases hci : c1 = i <;> by_cases hcj : c2 = j
  all_goals
    go_wp2
    go_region_held3 (fun w' => w'.cell? ⟨w.heap.size, 0, none⟩ = some (.int .i64 H) ∧ w'.cell? ⟨w.heap.size, 1, none⟩ = some (.int .i64 T)) (go_keep) (first | (go_at_call 122; refine (HIN _ _ _ _).mono ?_; rintro e w7 ⟨rfl, Z', hO, hlz, hB7, hF7, hv7⟩; obtain ⟨hk0, hk1⟩ := HK.out w7 hF7; have HD := hide (And.intro hO (And.intro hlz (And.intro hB7 (And.intro hF7 hv7)))); clear hO hlz hB7 hF7 hv7))
    obtain ⟨hO, hlz, hB7, hF7, hv7⟩ := HD.out
    have hlZ : Z'.length = N := by rw [hO.len]; simp
    have hvz : val Z' = 0 := by
      rcases HZH.out with h | ⟨h, h'⟩
      · rw [h] at hO hv7; exact sv_none Z' N s M hM1 hM2 hO hv7
      · rw [h, h'] at hO
        exact sv_none Z' N s M hM1 hM2 ⟨hO.len, fun k _ => hO.same k (by omega)⟩ (by rw [h', sv_zero])
    have hans := (Ans.of_blk (base := w.heap.size) (zs := Z') (by have := HG.out; omega) hB7 List.take_length.symm (Nat.le_refl _) (by omega) hlz).trim
    have HT2 := mtrim_any (some ⟨g, 0, none⟩) N Z' w7 (by omega) (by omega) (.inr ⟨g, 0, rfl, fun k hk => by rw [Nat.zero_add]; exact hB7.cell k hk⟩)
    rw [hlZ] at HT2 hans
    have hlt := tr_length_le Z'
    have HR : Hid (WholeDone w 0 (X.length + Y.length) (.returned (.slice (some ⟨g, 0, none⟩) (tr Z').length N)) w7) :=
      hide ⟨⟨_, tr Z', rfl, hans, by rw [val_tr, hvz], tr_tr _, by omega⟩, B4.out.trans ((Fr.trans (Fr.refl g w6).drew hF7).below (by have := HG.out; omega) B4.out.size)⟩
    clear hO hlz hB7 hF7 hv7 HD HIN HK hans hvz hb4 B4 HG
    generalize (tr Z').length = n' at *
    go_wp2_with fail
    refine HT2.mono ?_
    rintro e w8 ⟨rfl, hw⟩; subst hw
    clear HT2
    go_wp2
    go_ret
    exact HR.out

end Go.Proofs.YtppblbhkghjphaaGreatDoor

/- Package mul: Mul, School, Karatsuba, Toom, Square, of any numbers. -/
namespace Go.Proofs.YtppblbhkghjphaaGreatDoor
open Go.RowKit
open Lm

/-- Whole, as far as the product isn't too great for sure. -/
theorem whole_fits (H T : Int) (hH : 2 ≤ H) (hTT : 3 ≤ T) (va vb : Value) (X Y : List Nat) (w : World) (hA : Arg w va X) (hA2 : Arg w vb Y) (hT : Tab w) (hf : X.length + Y.length ≤ 35184372088831) (hl : (tr X).length + (tr Y).length ≤ 4398046511103 ∨ val X = 0 ∨ val Y = 0) :
    Calls Tryz.prog 119 #[way H T, va, vb] w (WholeDone w (val X * val Y) (X.length + Y.length)) := by
  by_cases hz : val X = 0 ∨ val Y = 0
  · rw [show val X * val Y = 0 by rcases hz with h | h <;> rw [h] <;> simp]
    exact whole_zero H T (by omega) (by omega) va vb X Y w hA hA2 hT hz hf
  · refine whole_pos H T va vb X Y w hA hA2 hT (fun e => hz (.inl e)) (fun e => hz (.inr e)) hf ?_
    exact into_ok H T hH hTT 4398046511103 _ _ (by rw [List.length_drop, List.length_drop]; rcases hl with h | h; omega; exact absurd h hz) (Nat.le_refl _)

theorem least_few (X Y : List Nat) (h : least (val X) (val Y) ≤ 67108864) : (tr X).length + (tr Y).length ≤ 4398046511103 ∨ val X = 0 ∨ val Y = 0 := by
  by_cases hz : val X = 0 ∨ val Y = 0
  · exact .inr hz
  · left
    unfold least at h
    rw [if_neg hz] at h
    have hx : blen (val X) ≠ 0 := by unfold blen; rw [if_neg (fun e => hz (.inl e))]; omega
    have hy : blen (val Y) ≠ 0 := by unfold blen; rw [if_neg (fun e => hz (.inr e))]; omega
    have h1 := few_limbs X 1048576 (by omega)
    have h2 := few_limbs Y 1048576 (by omega)
    omega

set_option maxHeartbeats 400000 in
theorem product_any (H T : Int) (hH : 2 ≤ H) (hTT : 3 ≤ T) (va vb : Value) (X Y : List Nat) (w : World) (hA : Arg w va X) (hA2 : Arg w vb Y) (hT : Tab w) (hf : X.length + Y.length ≤ 35184372088831) :
    Calls Tryz.prog 111 #[way H T, va, vb] w fun e w' => Below w.heap.size w w' ∧ Res w' w.heap.size e (val X * val Y) := by
  obtain ⟨w1, hw1⟩ : ∃ w1, w1 = w.alloc (.cells #[.int .i64 H, .int .i64 T] 128) := ⟨_, rfl⟩
  have hbel1 : Below w.heap.size w w1 := by rw [hw1]; exact (Below.refl _ _).alloc (Nat.le_refl _) _
  have hb1 : w1.heap[w.heap.size]? = some (.cells #[.int .i64 H, .int .i64 T] 128) := by rw [hw1]; exact heap_alloc_new ..
  have hc0 : w1.cell? ⟨w.heap.size, 0, none⟩ = some (.int .i64 H) := by simp [World.cell?, hb1]
  have hc1 : w1.cell? ⟨w.heap.size, 1, none⟩ = some (.int .i64 T) := by simp [World.cell?, hb1]
  have H1 := leastLength_any va vb X Y w1 (hA.below hbel1) (hA2.below hbel1) (by omega) (by omega)
  have hle := least_le (val X) (val Y)
  by_cases hbig : least (val X) (val Y) ≤ 67108864
  · have H2 := whole_fits H T hH hTT va vb X Y w1 (hA.below hbel1) (hA2.below hbel1) (hT.below hbel1) hf (least_few X Y hbig)
    have B1 := hide hbel1
    have HW1 := hide hw1
    clear hA hA2 hT hw1 hbel1 hb1
    unfold way at *
    generalize val X * val Y = p at *
    generalize least (val X) (val Y) = l at *
    go_enter Tryz.func111, Tryz.ntmps111
    go_wp2_with fail
    rw [← HW1.out]
    refine H1.mono ?_
    rintro e w2 ⟨rfl, hw⟩; subst hw
    clear H1 HW1
    go_wp2_with fail
    refine H2.mono ?_
    rintro e w3 ⟨⟨v, rs, rfl, hans, hv, ht, hl⟩, hb⟩
    have HR := manswer_own v w.heap.size rs w3 (hans.base B1.out.size) (by omega)
    rw [hv] at HR
    have B3 : Hid (Below w.heap.size w w3) := B1.out.trans (hb.mono B1.out.size)
    clear H2 hans hv ht hb hc0 hc1
    go_wp2_with fail
    refine HR.mono ?_
    rintro e w4 ⟨hw, hres⟩; subst hw
    unfold Res at hres
    obtain ⟨v, c, rs, rfl, hres⟩ := hres
    have HX := hide hres
    clear hres HR
    go_wp2
    go_ret2
    exact ⟨B3.out, v, c, rs, rfl, HX.out⟩
  · have HP : Hid (67108864 < blen (val X * val Y)) := hide (by omega)
    have B1 := hide hbel1
    have HW1 := hide hw1
    clear hle hA hA2 hT hw1 hbel1 hb1
    unfold way at *
    generalize val X * val Y = p at *
    generalize least (val X) (val Y) = l at *
    go_enter Tryz.func111, Tryz.ntmps111
    go_wp2_with fail
    rw [← HW1.out]
    refine H1.mono ?_
    rintro e w2 ⟨rfl, hw⟩; subst hw
    clear H1 HW1
    go_wp2
    go_ret2
    exact ⟨B1.out, _, _, [], rfl, Ans.nil _ _, .inr ⟨rfl, rfl, HP.out⟩⟩

theorem mul_any (va vb : Value) (X Y : List Nat) (w : World) (hA : Arg w va X) (hA2 : Arg w vb Y) (hT : Tab w) (hf : X.length + Y.length ≤ 35184372088831) :
    Calls Tryz.prog 101 #[va, vb] w fun e w' => Below w.heap.size w w' ∧ Res w' w.heap.size e (val X * val Y) := by
  have HQ := quick_any w
  go_enter Tryz.func101, Tryz.ntmps101
  go_wp2_with fail
  refine HQ.mono ?_
  rintro e w1 ⟨rfl, hb⟩
  have B1 := hide hb
  have HP := product_any 40 200 (by omega) (by omega) va vb X Y w1 (hA.below hb) (hA2.below hb) (hT.below hb) hf
  generalize way 40 200 = W at *
  clear hb HQ hA hA2 hT
  go_wp2_with fail
  refine HP.mono ?_
  rintro e w2 ⟨hb, v, c, rs, rfl, hans, hres⟩
  have HR := hide (And.intro (B1.out.trans (hb.mono B1.out.size)) (And.intro (hans.base B1.out.size) hres))
  clear hb hans hres HP
  go_wp2
  go_ret2
  exact ⟨HR.out.1, v, c, rs, rfl, HR.out.2.1, HR.out.2.2⟩

end Go.Proofs.YtppblbhkghjphaaGreatDoor
