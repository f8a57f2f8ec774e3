/- Package mul: whole, of two numbers above 0. -/
import Derived.Test.YtmloigbacfllhaaDoorMulE
namespace Go.Proofs.YtmloigbacfllhaaDoor
open Go.RowKit
open Lm

/-- What 'whole' answers. -/
def WholeDone (w : World) (p n : Nat) (e : Ending) (w' : World) : Prop :=
  (∃ v rs, e = .returned v ∧ Ans w' w.heap.size v rs ∧ val rs = p ∧ tr rs = rs ∧ rs.length ≤ n) ∧ Below w.heap.size w w'

set_option maxRecDepth 20000 in
set_option maxHeartbeats 1000000 in
theorem whole_pos (H T : Int) (va vb : Value) (X Y : List Nat) (w : World) (hA : Arg w va X) (hA2 : Arg w vb Y) (hT : Tab w) (hX : val X ≠ 0) (hY : val Y ≠ 0) (hf : X.length + Y.length ≤ 35184372088831)
    (hI : IntoOk H T ((tr X).drop (low0 (tr X))) ((tr Y).drop (low0 (tr Y)))) :
    Calls Tryd.prog 67 #[way H T, va, vb] w (WholeDone w (val X * val Y) (X.length + Y.length)) := by
  unfold way
  obtain ⟨a1, c1, rfl, hcc1, hcm1, hl1⟩ := hA.form
  obtain ⟨a2, c2, rfl, hcc2, hcm2, hl2⟩ := hA2.form
  have lX := tr_length_le X
  have lY := tr_length_le Y
  have hX0 : tr X ≠ [] := fun e => hX (by rw [← val_tr, e]; rfl)
  have hY0 : tr Y ≠ [] := fun e => hY (by rw [← val_tr, e]; rfl)
  obtain ⟨i0, hi, hz0, hz1, hz2⟩ := info_parts Tryd.infoU
  -- behind the box
  obtain ⟨w1, hw1⟩ : ∃ w1, w1 = w.alloc (.cells #[.int .i64 H, .int .i64 T] 73) := ⟨_, rfl⟩
  have hbel1 : Below w.heap.size w w1 := by rw [hw1]; exact (Below.refl _ _).alloc (Nat.le_refl _) _
  have hs1 : w1.heap.size = w.heap.size + 1 := by rw [hw1]; simp
  have hb1 : w1.heap[w.heap.size]? = some (.cells #[.int .i64 H, .int .i64 T] 73) := by rw [hw1]; exact heap_alloc_new ..
  have hc0 : w1.cell? ⟨w.heap.size, 0, none⟩ = some (.int .i64 H) := by simp [World.cell?, hb1]
  have hc1 : w1.cell? ⟨w.heap.size, 1, none⟩ = some (.int .i64 T) := by simp [World.cell?, hb1]
  have B1 := hide hbel1
  have HW1 := hide hw1
  have A1 := (hA.below hbel1).trim
  have A2 := (hA2.below hbel1).trim
  have hT1 := hT.below hbel1
  have H1 := mtrim_any a1 c1 X w1 hcc1 hcm1 (hl1.below hbel1)
  have H2 := mtrim_any a2 c2 Y w1 hcc2 hcm2 (hl2.below hbel1)
  rw [← val_tr X, ← val_tr Y]
  have L1 := (hl1.below hbel1).tr
  have L2 := (hl2.below hbel1).tr
  have HPX : Hid (val (tr X) ≠ 0) := hide (by rw [val_tr]; exact hX)
  have HQY : Hid (val (tr Y) ≠ 0) := hide (by rw [val_tr]; exact hY)
  clear hA hA2 hT hl1 hl2 hX hY hw1 hbel1
  generalize tr X = P at *
  generalize tr Y = Q at *
  have hP : 0 < P.length := List.length_pos_iff.2 hX0
  have hQ : 0 < Q.length := List.length_pos_iff.2 hY0
  rcases L1 with h' | ⟨b, off, rfl, hcell1⟩
  · exact absurd h' hX0
  rcases L2 with h' | ⟨b2, off2, rfl, hcell2⟩
  · exact absurd h' hY0
  have hbw := Lies.block (zs := P) (.inr ⟨b, off, rfl, hcell1⟩) hP
  have hbw2 := Lies.block (zs := Q) (.inr ⟨b2, off2, rfl, hcell2⟩) hQ
  clear hcell1 hcell2 hX0 hY0
  obtain ⟨N, hN1, hN2, eN⟩ : ∃ N : Nat, N ≤ P.length + Q.length ∧ P.length + Q.length ≤ N ∧ (P.length : Int) + (Q.length : Int) = (N : Int) := ⟨P.length + Q.length, by omega, by omega, by omega⟩
  go_enter Tryd.func67, Tryd.ntmps67
  go_wp2_with fail
  rw [← HW1.out]
  refine H1.mono ?_
  rintro e w2 ⟨rfl, hw⟩; subst hw
  go_wp2_with fail
  refine H2.mono ?_
  rintro e w3 ⟨rfl, hw⟩; subst hw
  clear H1 H2
  go_wp2_with (at_make; refine wpList_make_full _ rfl _ _ 23 rfl w3.heap.size 38 i0 (.int .u64 0) 1 Tryd.underlying23 hi hz0 hz1 .i64 .i64 _ _ N rfl rfl (by omega) (by omega) (by rw [hz2]; omega) (by unfold maxLen; omega) (Nat.le_refl _) ?_; intro w4 hown hgrow)
  have hb4 := Blk.made hown
  rw [hs1] at hb4
  have hbel4 : Below w3.heap.size w3 w4 := (Below.refl _ _).grown hgrow (Nat.le_refl _) (fun k hk => by cases hk)
  have hs4 : w3.heap.size < w4.heap.size := by rw [hs1]; exact hb4.lt
  clear hown hgrow hi hz0 hz1 hz2
  have B4 : Hid (Below w.heap.size w w4) := B1.out.trans (hbel4.mono (by omega))
  replace A1 := A1.below hbel4
  replace A2 := A2.below hbel4
  replace hT1 := hT1.below hbel4
  have hc04 : w4.cell? ⟨w.heap.size, 0, none⟩ = some (.int .i64 H) := by rw [hbel4.cell (p := ⟨w.heap.size, 0, none⟩) (by show w.heap.size < _; omega)]; exact hc0
  have hc14 : w4.cell? ⟨w.heap.size, 1, none⟩ = some (.int .i64 T) := by rw [hbel4.cell (p := ⟨w.heap.size, 1, none⟩) (by show w.heap.size < _; omega)]; exact hc1
  clear hc0 hc1 hb1 B1 HW1 hbel4
  refine (tail_weak _ _ _ A1 hT1).mono ?_
  rintro e w5 ⟨⟨t, ht, rfl⟩, hw⟩; subst hw
  have li := low0_le P
  have li' := low0_lt P HPX.out
  have vi := low0_val P
  generalize low0 P = i at *
  obtain ⟨ti, eti⟩ : ∃ ti : Nat, ti = i * 64 + t := ⟨_, rfl⟩
  have eI : (ti : Int) / 64 = (i : Int) := by omega
  have hti : ti ≤ 9223372036854775807 := by omega
  rw [← eti]
  clear eti ht
  go_wp2_with fail
  refine (tail_weak _ _ _ A2 hT1).mono ?_
  rintro e w6 ⟨⟨u, hu, rfl⟩, hw⟩; subst hw
  have lj := low0_le Q
  have lj' := low0_lt Q HQY.out
  have vj := low0_val Q
  generalize low0 Q = j at *
  obtain ⟨tj, etj⟩ : ∃ tj : Nat, tj = j * 64 + u := ⟨_, rfl⟩
  have eJ : (tj : Int) / 64 = (j : Int) := by omega
  have htj : tj ≤ 9223372036854775807 := by omega
  rw [← etj]
  clear etj hu hT1
  -- the call of 'into'
  obtain ⟨g, hg⟩ : ∃ g, g = w.heap.size + 1 := ⟨_, rfl⟩
  have HI := hI g (i + j) (N - (i + j)) (List.replicate N 0) _ _ w6.drew (by rw [hg]; exact hb4) (limbs_replicate _) ((A1.drop i li).below ((Below.refl _ _).drew)) ((A2.drop j lj).below ((Below.refl _ _).drew))
    (fun b' off' n c e => by cases e; omega) (fun b' off' n c e => by cases e; omega) (by simp; omega) (by simp; omega) (by omega)
  rw [List.length_drop, List.length_drop] at HI
  have HVAL := hide (fun Z ho hs => whole_val Z P Q i j N li lj (by omega) vi vj ho hs)
  clear vi vj hI A1 A2
  obtain ⟨M, hM1, hM2⟩ : ∃ M, P.length - i + (Q.length - j) = M ∧ N - (i + j) = M := ⟨_, rfl, by omega⟩
  rw [hM1, hM2] at HI
  rw [hM1] at HVAL
  have eS : (i : Int) + (j : Int) = ((i + j : Nat) : Int) := by omega
  have hS : i + j + M ≤ N := by omega
  have hS2 : N ≤ i + j + M := by omega
  generalize i + j = s at *
  have wS : IntKind.i64.wrap (s : Int) = (s : Int) := by rw [IntKind.wrap_i64]; omega
  have k1 : (0 : Int) ≤ (s : Int) := by omega
  have k2 : (s : Int) ≤ (N : Int) := by omega
  have k3 : (0 : Int) ≤ (i : Int) := by omega
  have k4 : (i : Int) ≤ (P.length : Int) := by omega
  have k5 : (0 : Int) ≤ (j : Int) := by omega
  have k6 : (j : Int) ≤ (Q.length : Int) := by omega
  have k7 : (i : Int) ≤ (c1 : Int) := by omega
  have k8 : (j : Int) ≤ (c2 : Int) := by omega
  have k9 : ¬ N = s := by omega
  have k10 : ¬ c1 = i := by omega
  have k11 : ¬ c2 = j := by omega
  clear hM1
  rw [← hg]
  have HG := hide hg
  clear hg
  unfold way at HI
  have HK := hide (fun (w7 : World) (hF : Fr g w6.drew w7) => (⟨by rw [World.cell?_of_block (w := w6.drew) (hF.block w.heap.size (by show _ < w6.heap.size; have := HG.out; omega) (by have := HG.out; omega))]; exact hc04, by rw [World.cell?_of_block (w := w6.drew) (hF.block w.heap.size (by show _ < w6.heap.size; have := HG.out; omega) (by have := HG.out; omega))]; exact hc14⟩ : w7.cell? ⟨w.heap.size, 0, none⟩ = some (.int .i64 H) ∧ w7.cell? ⟨w.heap.size, 1, none⟩ = some (.int .i64 T)))
  go_wp2
  go_region_held3 (fun w' => w'.cell? ⟨w.heap.size, 0, none⟩ = some (.int .i64 H) ∧ w'.cell? ⟨w.heap.size, 1, none⟩ = some (.int .i64 T)) (go_keep) (first | (go_at_call 72; refine HI.mono ?_; rintro e w7 ⟨rfl, Z', hO, hlz, hB7, hF7, hv7⟩; obtain ⟨hk0, hk1⟩ := HK.out w7 hF7; have HD := hide (And.intro hO (And.intro hlz (And.intro hB7 (And.intro hF7 hv7)))); clear hO hlz hB7 hF7 hv7))
  obtain ⟨hO, hlz, hB7, hF7, hv7⟩ := HD.out
  have hlZ : Z'.length = N := by rw [hO.len]; simp
  have hvz := HVAL.out Z' (by exact hO) hv7
  have hans := (Ans.of_blk (base := w.heap.size) (zs := Z') (by have := HG.out; omega) hB7 List.take_length.symm (Nat.le_refl _) (by omega) hlz).trim
  have HT2 := mtrim_any (some ⟨g, 0, none⟩) N Z' w7 (by omega) (by omega) (.inr ⟨g, 0, rfl, fun k hk => by rw [Nat.zero_add]; exact hB7.cell k hk⟩)
  rw [hlZ] at HT2 hans
  have hlt := tr_length_le Z'
  have HR : Hid (WholeDone w (val P * val Q) (X.length + Y.length) (.returned (.slice (some ⟨g, 0, none⟩) (tr Z').length N)) w7) :=
    hide ⟨⟨_, tr Z', rfl, hans, by rw [val_tr, hvz], tr_tr _, by omega⟩, B4.out.trans ((Fr.trans (Fr.refl g w6).drew hF7).below (by have := HG.out; omega) B4.out.size)⟩
  clear hO hlz hB7 hF7 hv7 HD HVAL HI HK hans hvz hb4 B4 HG
  generalize (tr Z').length = n' at *
  go_wp2_with fail
  refine HT2.mono ?_
  rintro e w8 ⟨rfl, hw⟩; subst hw
  clear HT2
  go_wp2
  go_ret
  exact HR.out

end Go.Proofs.YtmloigbacfllhaaDoor
