/- Package mul: products with 0. -/
import Derived.Test.YtmloigbacfllhaaDoorMulP
import Derived.Test.YtmloigbacfllhaaDoorMulF
namespace Go.Proofs.YtmloigbacfllhaaDoor
open Go.RowKit
open Lm

set_option maxHeartbeats 400000 in
theorem school_nil (bz zo n cap : Nat) (Z : List Nat) (va : Value) (a2 : Option Addr) (c2 : Nat) (w : World) (hB : Blk w bz Z) (hLZ : Limbs Z) (hzo : zo + n ≤ Z.length) :
    Calls Tryd.prog 75 #[.slice (some ⟨bz, zo, none⟩) n cap, va, .slice a2 0 c2] w (IntoDone bz zo n Z w 0) := by
  obtain ⟨w1, Z1, hrun, hO, hL, hB1, hF, hS⟩ := clear_any bz zo n cap Z w hB hLZ hzo
  have HD := hide (show IntoDone bz zo n Z w 0 (.returned (.tuple #[])) w1 from ⟨rfl, Z1, hO, hL, hB1, hF, hS⟩)
  clear hO hL hB1 hF hS hB hLZ
  go_enter Tryd.func75, Tryd.ntmps75
  go_wp2
  refine wp_loop_rounds 1 ?_
  rw [rounds_succ]
  go_wp2
  go_end0
  exact HD.out

set_option maxHeartbeats 800000 in
theorem into_nil (H T : Int) (hH : 1 ≤ H) (hT : 1 ≤ T) (bz zo n cap : Nat) (Z : List Nat) (a1 : Option Addr) (l1 c1 : Nat) (a2 : Option Addr) (l2 c2 : Nat) (w : World) (hB : Blk w bz Z) (hLZ : Limbs Z) (hz : l1 = 0 ∨ l2 = 0) (hl1 : l1 ≤ 1125899906842624) (hl2 : l2 ≤ 1125899906842624) (hzo : zo + n ≤ Z.length) :
    Calls Tryd.prog 72 #[way H T, .slice (some ⟨bz, zo, none⟩) n cap, .slice a1 l1 c1, .slice a2 l2 c2] w (IntoDone bz zo n Z w 0) := by
  unfold way
  have i1 : (0 : Int) < H := by omega
  have i2 : (0 : Int) < T := by omega
  by_cases h2 : l2 = 0
  · subst h2
    have hd0 : decide ((l1 : Int) < 0) = false := decide_eq_false (by omega)
    have HS := school_nil bz zo n cap Z (.slice a1 l1 c1) a2 c2 (w.alloc (.cells #[.int .i64 H, .int .i64 T] 73)) (hB.alloc _) hLZ hzo
    clear hz
    go_enter Tryd.func72, Tryd.ntmps72
    go_wp2_with fail
    refine HS.mono ?_
    rintro e w2 hd
    have HD := hide (IntoDone.after hd (Fr.alloc bz w _))
    obtain ⟨he, _⟩ := hd
    subst he
    clear HS hB
    go_wp2
    go_end0
    exact HD.out
  · have h1 : l1 = 0 := by omega
    subst h1
    have hd0 : (0 : Int) < (l2 : Int) := by omega
    have HS := school_nil bz zo n cap Z (.slice a2 l2 c2) a1 c1 (w.alloc (.cells #[.int .i64 H, .int .i64 T] 73)) (hB.alloc _) hLZ hzo
    clear hz
    go_enter Tryd.func72, Tryd.ntmps72
    go_wp2_with fail
    refine HS.mono ?_
    rintro e w2 hd
    have HD := hide (IntoDone.after hd (Fr.alloc bz w _))
    obtain ⟨he, _⟩ := hd
    subst he
    clear HS hB
    go_wp2
    go_end0
    exact HD.out

theorem sv_none (Z : List Nat) (N s M : Nat) (hM : s + M ≤ N) (hM2 : N ≤ s + M) (ho : Out (List.replicate N 0) Z s (s + M)) (hs : sv Z s M = 0) : val Z = 0 := by
  have hl : Z.length = N := by rw [ho.len]; simp
  have e0 : sv Z 0 s = 0 := by
    rw [ho.sv 0 s (by omega)]
    unfold sv seg
    rw [List.drop_replicate, List.take_replicate, val_replicate]
  have e1 : sv Z 0 (s + M) = val Z := by rw [show s + M = Z.length by omega, sv_all]
  rw [sv_split _ _ _ _ (by omega), e0, Nat.zero_add, Nat.zero_add, hs, Nat.mul_zero] at e1
  exact e1.symm

set_option maxRecDepth 20000 in
set_option maxHeartbeats 1000000 in
theorem whole_zero (H T : Int) (hH : 1 ≤ H) (hTT : 1 ≤ T) (va vb : Value) (X Y : List Nat) (w : World) (hA : Arg w va X) (hA2 : Arg w vb Y) (hT : Tab w) (hXY : val X = 0 ∨ val Y = 0) (hf : X.length + Y.length ≤ 35184372088831) :
    Calls Tryd.prog 67 #[way H T, va, vb] w (WholeDone w 0 (X.length + Y.length)) := by
  unfold way
  obtain ⟨a1, c1, rfl, hcc1, hcm1, hl1⟩ := hA.form
  obtain ⟨a2, c2, rfl, hcc2, hcm2, hl2⟩ := hA2.form
  have lX := tr_length_le X
  have lY := tr_length_le Y
  have hXY0 : (tr X).length = 0 ∨ (tr Y).length = 0 := by
    rcases hXY with h | h
    · left; have := tr_len_lt X 0 (by rw [h]; simp); omega
    · right; have := tr_len_lt Y 0 (by rw [h]; simp); omega
  obtain ⟨i0, hi, hz0, hz1, hz2⟩ := info_parts Tryd.infoU
  obtain ⟨w1, hw1⟩ : ∃ w1, w1 = w.alloc (.cells #[.int .i64 H, .int .i64 T] 73) := ⟨_, rfl⟩
  have hbel1 : Below w.heap.size w w1 := by rw [hw1]; exact (Below.refl _ _).alloc (Nat.le_refl _) _
  have hs1 : w1.heap.size = w.heap.size + 1 := by rw [hw1]; simp
  have hb1 : w1.heap[w.heap.size]? = some (.cells #[.int .i64 H, .int .i64 T] 73) := by rw [hw1]; exact heap_alloc_new ..
  have hc0 : w1.cell? ⟨w.heap.size, 0, none⟩ = some (.int .i64 H) := by simp [World.cell?, hb1]
  have hc1 : w1.cell? ⟨w.heap.size, 1, none⟩ = some (.int .i64 T) := by simp [World.cell?, hb1]
  have B1 := hide hbel1
  have HW1 := hide hw1
  have A1 := (hA.below hbel1).trim
  have A2 := (hA2.below hbel1).trim
  have hT1 := hT.below hbel1
  have H1 := mtrim_any a1 c1 X w1 hcc1 hcm1 (hl1.below hbel1)
  have H2 := mtrim_any a2 c2 Y w1 hcc2 hcm2 (hl2.below hbel1)
  clear hA hA2 hT hl1 hl2 hXY hw1 hbel1
  generalize tr X = P at *
  generalize tr Y = Q at *
  obtain ⟨N, hN1, hN2, eN⟩ : ∃ N : Nat, N ≤ P.length + Q.length ∧ P.length + Q.length ≤ N ∧ (P.length : Int) + (Q.length : Int) = (N : Int) := ⟨P.length + Q.length, by omega, by omega, by omega⟩
  go_enter Tryd.func67, Tryd.ntmps67
  go_wp2_with fail
  rw [← HW1.out]
  refine H1.mono ?_
  rintro e w2 ⟨rfl, hw⟩; subst hw
  go_wp2_with fail
  refine H2.mono ?_
  rintro e w3 ⟨rfl, hw⟩; subst hw
  clear H1 H2
  go_wp2_with (at_make; refine wpList_make_full _ rfl _ _ 23 rfl w3.heap.size 38 i0 (.int .u64 0) 1 Tryd.underlying23 hi hz0 hz1 .i64 .i64 _ _ N rfl rfl (by omega) (by omega) (by rw [hz2]; omega) (by unfold maxLen; omega) (Nat.le_refl _) ?_; intro w4 hown hgrow)
  have hb4 := Blk.made hown
  rw [hs1] at hb4
  have hbel4 : Below w3.heap.size w3 w4 := (Below.refl _ _).grown hgrow (Nat.le_refl _) (fun k hk => by cases hk)
  have hs4 : w3.heap.size < w4.heap.size := by rw [hs1]; exact hb4.lt
  clear hown hgrow hi hz0 hz1 hz2
  have B4 : Hid (Below w.heap.size w w4) := B1.out.trans (hbel4.mono (by omega))
  replace A1 := A1.below hbel4
  replace A2 := A2.below hbel4
  replace hT1 := hT1.below hbel4
  have hc04 : w4.cell? ⟨w.heap.size, 0, none⟩ = some (.int .i64 H) := by rw [hbel4.cell (p := ⟨w.heap.size, 0, none⟩) (by show w.heap.size < _; omega)]; exact hc0
  have hc14 : w4.cell? ⟨w.heap.size, 1, none⟩ = some (.int .i64 T) := by rw [hbel4.cell (p := ⟨w.heap.size, 1, none⟩) (by show w.heap.size < _; omega)]; exact hc1
  clear hc0 hc1 hb1 B1 HW1 hbel4
  refine (tail_weak _ _ _ A1 hT1).mono ?_
  rintro e w5 ⟨⟨t, ht, rfl⟩, hw⟩; subst hw
  have li := low0_le P
  generalize low0 P = i at *
  obtain ⟨ti, eti⟩ : ∃ ti : Nat, ti = i * 64 + t := ⟨_, rfl⟩
  have eI : (ti : Int) / 64 = (i : Int) := by omega
  have fP := A1.few
  have fQ := A2.few
  have hti : ti ≤ 9223372036854775807 := by omega
  rw [← eti]
  clear eti ht
  go_wp2_with fail
  refine (tail_weak _ _ _ A2 hT1).mono ?_
  rintro e w6 ⟨⟨u, hu, rfl⟩, hw⟩; subst hw
  have lj := low0_le Q
  generalize low0 Q = j at *
  obtain ⟨tj, etj⟩ : ∃ tj : Nat, tj = j * 64 + u := ⟨_, rfl⟩
  have eJ : (tj : Int) / 64 = (j : Int) := by omega
  have htj : tj ≤ 9223372036854775807 := by omega
  rw [← etj]
  clear etj hu hT1 A1 A2
  obtain ⟨g, hg⟩ : ∃ g, g = w.heap.size + 1 := ⟨_, rfl⟩
  obtain ⟨s, eS, hSa, hSb⟩ : ∃ s : Nat, (i : Int) + (j : Int) = (s : Int) ∧ s ≤ i + j ∧ i + j ≤ s := ⟨i + j, by omega, by omega, by omega⟩
  obtain ⟨M, hM1, hM2⟩ : ∃ M : Nat, s + M ≤ N ∧ N ≤ s + M := ⟨N - s, by omega, by omega⟩
  have eM : N - s = M := by omega
  obtain ⟨zh, ezh, hzh⟩ : ∃ zh : Nat, (if N = s then (some ⟨g, 0, none⟩ : Option Addr) else some ⟨g, s, none⟩) = some ⟨g, zh, none⟩ ∧ (zh = s ∨ (zh = 0 ∧ M = 0)) := by
    by_cases hc : N = s
    · exact ⟨0, by rw [if_pos hc], .inr ⟨rfl, by omega⟩⟩
    · exact ⟨s, by rw [if_neg hc], .inl rfl⟩
  have HIN := fun (b1 : Option Addr) (k1 : Nat) (b2 : Option Addr) (k2 : Nat) => into_nil H T hH hTT g zh M M (List.replicate N 0) b1 (P.length - i) k1 b2 (Q.length - j) k2 w6.drew (by rw [hg]; exact hb4) (limbs_replicate _) (by omega) (by omega) (by omega) (by simp; omega)
  have wS : IntKind.i64.wrap (s : Int) = (s : Int) := by rw [IntKind.wrap_i64]; omega
  have k1 : (0 : Int) ≤ (s : Int) := by omega
  have k2 : (s : Int) ≤ (N : Int) := by omega
  have k3 : (0 : Int) ≤ (i : Int) := by omega
  have k4 : (i : Int) ≤ (P.length : Int) := by omega
  have k5 : (0 : Int) ≤ (j : Int) := by omega
  have k6 : (j : Int) ≤ (Q.length : Int) := by omega
  have k7 : (i : Int) ≤ (c1 : Int) := by omega
  have k8 : (j : Int) ≤ (c2 : Int) := by omega
  rw [← hg]
  have HG := hide hg
  have HZH := hide hzh
  clear hg hzh
  unfold way at HIN
  have HK := hide (fun (w7 : World) (hF : Fr g w6.drew w7) => (⟨by rw [World.cell?_of_block (w := w6.drew) (hF.block w.heap.size (by show _ < w6.heap.size; have := HG.out; omega) (by have := HG.out; omega))]; exact hc04, by rw [World.cell?_of_block (w := w6.drew) (hF.block w.heap.size (by show _ < w6.heap.size; have := HG.out; omega) (by have := HG.out; omega))]; exact hc14⟩ : w7.cell? ⟨w.heap.size, 0, none⟩ = some (.int .i64 H) ∧ w7.cell? ⟨w.heap.size, 1, none⟩ = some (.int .i64 T)))
  by_cases hci : c1 = i <;> by_cases hcj : c2 = j
  all_goals
    go_wp2
    go_region_held3 (fun w' => w'.cell? ⟨w.heap.size, 0, none⟩ = some (.int .i64 H) ∧ w'.cell? ⟨w.heap.size, 1, none⟩ = some (.int .i64 T)) (go_keep) (first | (go_at_call 72; refine (HIN _ _ _ _).mono ?_; rintro e w7 ⟨rfl, Z', hO, hlz, hB7, hF7, hv7⟩; obtain ⟨hk0, hk1⟩ := HK.out w7 hF7; have HD := hide (And.intro hO (And.intro hlz (And.intro hB7 (And.intro hF7 hv7)))); clear hO hlz hB7 hF7 hv7))
    obtain ⟨hO, hlz, hB7, hF7, hv7⟩ := HD.out
    have hlZ : Z'.length = N := by rw [hO.len]; simp
    have hvz : val Z' = 0 := by
      rcases HZH.out with h | ⟨h, h'⟩
      · rw [h] at hO hv7; exact sv_none Z' N s M hM1 hM2 hO hv7
      · rw [h, h'] at hO
        exact sv_none Z' N s M hM1 hM2 ⟨hO.len, fun k _ => hO.same k (by omega)⟩ (by rw [h', sv_zero])
    have hans := (Ans.of_blk (base := w.heap.size) (zs := Z') (by have := HG.out; omega) hB7 List.take_length.symm (Nat.le_refl _) (by omega) hlz).trim
    have HT2 := mtrim_any (some ⟨g, 0, none⟩) N Z' w7 (by omega) (by omega) (.inr ⟨g, 0, rfl, fun k hk => by rw [Nat.zero_add]; exact hB7.cell k hk⟩)
    rw [hlZ] at HT2 hans
    have hlt := tr_length_le Z'
    have HR : Hid (WholeDone w 0 (X.length + Y.length) (.returned (.slice (some ⟨g, 0, none⟩) (tr Z').length N)) w7) :=
      hide ⟨⟨_, tr Z', rfl, hans, by rw [val_tr, hvz], tr_tr _, by omega⟩, B4.out.trans ((Fr.trans (Fr.refl g w6).drew hF7).below (by have := HG.out; omega) B4.out.size)⟩
    clear hO hlz hB7 hF7 hv7 HD HIN HK hans hvz hb4 B4 HG
    generalize (tr Z').length = n' at *
    go_wp2_with fail
    refine HT2.mono ?_
    rintro e w8 ⟨rfl, hw⟩; subst hw
    clear HT2
    go_wp2
    go_ret
    exact HR.out

end Go.Proofs.YtmloigbacfllhaaDoor
