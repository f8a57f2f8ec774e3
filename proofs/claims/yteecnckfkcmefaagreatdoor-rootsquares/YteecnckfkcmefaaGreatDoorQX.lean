/- Package roots: leavesSquares. -/
import Derived.Test.YteecnckfkcmefaaGreatDoorQR
import Derived.Test.YteecnckfkcmefaaGreatDoorQU
import Derived.Test.YteecnckfkcmefaaGreatDoorQH
import Derived.LoopN
import Derived.Test.YteecnckfkcmefaaGreatDoorQW
import Derived.Test.YteecnckfkcmefaaGreatDoorQJ
namespace Go.Proofs.YteecnckfkcmefaaGreatDoor
open Go.RowKit
open Lm
attribute [local go_sem ↓] Go.wp_at_zero Go.wp_at_succ

def AllF5 (l : List Value) (n : Nat) : Prop := l.length = n ∧ ∀ v, v ∈ l → v = .bool false

theorem AllF5.app {A B : List Value} {n m : Nat} (h : AllF5 A n) (k : AllF5 B m) : AllF5 (A.append B) (n + m) := by
  refine ⟨by rw [List.append_eq, List.length_append, h.1, k.1], fun v hv => ?_⟩
  rw [List.append_eq] at hv
  rcases List.mem_append.1 hv with h' | h'
  · exact h.2 v h'
  · exact k.2 v h'

theorem AllF5.cast {A : List Value} {n m : Nat} (h : AllF5 A n) (e : n = m) : AllF5 A m := e ▸ h

theorem AllF5.nil : AllF5 [] 0 := ⟨rfl, fun v hv => by cases hv⟩

theorem AllF5.cons {A : List Value} {n : Nat} (h : AllF5 A n) : AllF5 (.bool false :: A) (n + 1) :=
  ⟨by rw [List.length_cons, h.1], fun v hv => by
    rcases List.mem_cons.1 hv with h' | h'
    · exact h'
    · exact h.2 v h'⟩

set_option maxRecDepth 100000 in
theorem zeroFlags65 : ∃ (L : List Value), Tryz.t114.zero = some (.agg L.toArray) ∧ AllF5 L 65 := by
  unfold Tryz.t114
  exact ⟨_, rfl, AllF5.cast (by repeat (first | exact AllF5.nil | apply AllF5.cons | apply AllF5.app)) (by rfl)⟩

theorem infoFlags65 : (Tryz.prog.info? 114) = some Tryz.t114 := by kernel_rfl

theorem zero_flags65 : ∃ (Z : Array Value), (∀ w, (zeroValue 114).run Tryz.prog w = .ok (.agg Z) w) ∧ Z.size = 65 ∧ ∀ i, i < 65 → Z[i]? = some (.bool false) := by
  obtain ⟨L, h1, h2⟩ := zeroFlags65
  refine ⟨L.toArray, fun w => by simp [zeroValue, typeInfo, infoFlags65, h1], by simpa using h2.1, fun i hi => ?_⟩
  have hl : i < L.length := by rw [h2.1]; exact hi
  simp only [List.getElem?_toArray, List.getElem?_eq_getElem hl]
  rw [h2.2 _ (List.getElem_mem hl)]

theorem block_up5 {w w' : World} {g : Nat} {x : Obj} (hb : Below w.heap.size w w') (h : w.heap[g]? = some x) : w'.heap[g]? = some x := by
  rw [hb.block g (lt_of_block h)]; exact h

theorem sq_filter (all v m : Nat) (hd : m ∣ all) (hm : 0 < m) (s : Nat) (hs : v = s * s) : sqB m m (v % all % m) = true := by
  rw [Nat.mod_mod_of_dvd v hd, hs]
  refine sqB_hit m m _ (s % m) (Nat.mod_lt _ hm) ?_
  rw [Nat.mul_mod s s m]

theorem idx_0 (w : World) : (Instr.index 113 (.agg #[.int .i64 63, .int .i64 65, .int .i64 11, .int .i64 17, .int .i64 19, .int .i64 23, .int .i64 29, .int .i64 31, .int .i64 37, .int .i64 41, .int .i64 43, .int .i64 47]) (.int .i64 0)).run Tryz.prog w = .ok (.int .i64 63) w := by kernel_rfl

theorem idx_1 (w : World) : (Instr.index 113 (.agg #[.int .i64 63, .int .i64 65, .int .i64 11, .int .i64 17, .int .i64 19, .int .i64 23, .int .i64 29, .int .i64 31, .int .i64 37, .int .i64 41, .int .i64 43, .int .i64 47]) (.int .i64 1)).run Tryz.prog w = .ok (.int .i64 65) w := by kernel_rfl

theorem idx_2 (w : World) : (Instr.index 113 (.agg #[.int .i64 63, .int .i64 65, .int .i64 11, .int .i64 17, .int .i64 19, .int .i64 23, .int .i64 29, .int .i64 31, .int .i64 37, .int .i64 41, .int .i64 43, .int .i64 47]) (.int .i64 2)).run Tryz.prog w = .ok (.int .i64 11) w := by kernel_rfl

theorem idx_3 (w : World) : (Instr.index 113 (.agg #[.int .i64 63, .int .i64 65, .int .i64 11, .int .i64 17, .int .i64 19, .int .i64 23, .int .i64 29, .int .i64 31, .int .i64 37, .int .i64 41, .int .i64 43, .int .i64 47]) (.int .i64 3)).run Tryz.prog w = .ok (.int .i64 17) w := by kernel_rfl

theorem idx_4 (w : World) : (Instr.index 113 (.agg #[.int .i64 63, .int .i64 65, .int .i64 11, .int .i64 17, .int .i64 19, .int .i64 23, .int .i64 29, .int .i64 31, .int .i64 37, .int .i64 41, .int .i64 43, .int .i64 47]) (.int .i64 4)).run Tryz.prog w = .ok (.int .i64 19) w := by kernel_rfl

theorem idx_5 (w : World) : (Instr.index 113 (.agg #[.int .i64 63, .int .i64 65, .int .i64 11, .int .i64 17, .int .i64 19, .int .i64 23, .int .i64 29, .int .i64 31, .int .i64 37, .int .i64 41, .int .i64 43, .int .i64 47]) (.int .i64 5)).run Tryz.prog w = .ok (.int .i64 23) w := by kernel_rfl

theorem idx_6 (w : World) : (Instr.index 113 (.agg #[.int .i64 63, .int .i64 65, .int .i64 11, .int .i64 17, .int .i64 19, .int .i64 23, .int .i64 29, .int .i64 31, .int .i64 37, .int .i64 41, .int .i64 43, .int .i64 47]) (.int .i64 6)).run Tryz.prog w = .ok (.int .i64 29) w := by kernel_rfl

theorem idx_7 (w : World) : (Instr.index 113 (.agg #[.int .i64 63, .int .i64 65, .int .i64 11, .int .i64 17, .int .i64 19, .int .i64 23, .int .i64 29, .int .i64 31, .int .i64 37, .int .i64 41, .int .i64 43, .int .i64 47]) (.int .i64 7)).run Tryz.prog w = .ok (.int .i64 31) w := by kernel_rfl

theorem idx_8 (w : World) : (Instr.index 113 (.agg #[.int .i64 63, .int .i64 65, .int .i64 11, .int .i64 17, .int .i64 19, .int .i64 23, .int .i64 29, .int .i64 31, .int .i64 37, .int .i64 41, .int .i64 43, .int .i64 47]) (.int .i64 8)).run Tryz.prog w = .ok (.int .i64 37) w := by kernel_rfl

theorem idx_9 (w : World) : (Instr.index 113 (.agg #[.int .i64 63, .int .i64 65, .int .i64 11, .int .i64 17, .int .i64 19, .int .i64 23, .int .i64 29, .int .i64 31, .int .i64 37, .int .i64 41, .int .i64 43, .int .i64 47]) (.int .i64 9)).run Tryz.prog w = .ok (.int .i64 41) w := by kernel_rfl

theorem idx_10 (w : World) : (Instr.index 113 (.agg #[.int .i64 63, .int .i64 65, .int .i64 11, .int .i64 17, .int .i64 19, .int .i64 23, .int .i64 29, .int .i64 31, .int .i64 37, .int .i64 41, .int .i64 43, .int .i64 47]) (.int .i64 10)).run Tryz.prog w = .ok (.int .i64 43) w := by kernel_rfl

theorem idx_11 (w : World) : (Instr.index 113 (.agg #[.int .i64 63, .int .i64 65, .int .i64 11, .int .i64 17, .int .i64 19, .int .i64 23, .int .i64 29, .int .i64 31, .int .i64 37, .int .i64 41, .int .i64 43, .int .i64 47]) (.int .i64 11)).run Tryz.prog w = .ok (.int .i64 47) w := by kernel_rfl

attribute [local go_sem] idx_0 idx_1 idx_2 idx_3 idx_4 idx_5 idx_6 idx_7 idx_8 idx_9 idx_10 idx_11

theorem box12 {w : World} {h : Nat} {a0 a1 a2 a3 a4 a5 a6 a7 a8 a9 a10 a11 : Value} {t : TypeId} (e : w.heap[h]? = some (.cells #[a0, a1, a2, a3, a4, a5, a6, a7, a8, a9, a10, a11] t)) : w.cell? ⟨h, 0, none⟩ = some a0 ∧ w.cell? ⟨h, 1, none⟩ = some a1 ∧ w.cell? ⟨h, 2, none⟩ = some a2 ∧ w.cell? ⟨h, 3, none⟩ = some a3 ∧ w.cell? ⟨h, 4, none⟩ = some a4 ∧ w.cell? ⟨h, 5, none⟩ = some a5 ∧ w.cell? ⟨h, 6, none⟩ = some a6 ∧ w.cell? ⟨h, 7, none⟩ = some a7 ∧ w.cell? ⟨h, 8, none⟩ = some a8 ∧ w.cell? ⟨h, 9, none⟩ = some a9 ∧ w.cell? ⟨h, 10, none⟩ = some a10 ∧ w.cell? ⟨h, 11, none⟩ = some a11 :=
  ⟨by simp [World.cell?, e], by simp [World.cell?, e], by simp [World.cell?, e], by simp [World.cell?, e], by simp [World.cell?, e], by simp [World.cell?, e], by simp [World.cell?, e], by simp [World.cell?, e], by simp [World.cell?, e], by simp [World.cell?, e], by simp [World.cell?, e], by simp [World.cell?, e]⟩

set_option maxRecDepth 100000 in
set_option maxHeartbeats 8000000 in
theorem leaves_any (va : Value) (X : List Nat) (w : World) (hA : Arg w va X) (hT : Tab w) (hl : X.length ≤ 17592186044416) :
    Calls Tryz.prog 75 #[va] w fun e w' => (∃ b, e = .returned (.bool b) ∧ ∀ s, val X = s * s → b = true) ∧ Below w.heap.size w w' := by
  obtain ⟨Z, hz, hs, hc⟩ := zero_flags65
  have HZ := hide (And.intro hs hc)
  obtain ⟨w0, hw0⟩ : ∃ w0, w.alloc (.cells #[.int .i64 63, .int .i64 65, .int .i64 11, .int .i64 17, .int .i64 19, .int .i64 23, .int .i64 29, .int .i64 31, .int .i64 37, .int .i64 41, .int .i64 43, .int .i64 47] 113) = w0 := ⟨_, rfl⟩
  have hb0 : Below w.heap.size w w0 := by rw [← hw0]; exact (Below.refl _ _).alloc (Nat.le_refl _) _
  have HR := restOf_any va X 922334673882737115 w0 (hA.below hb0) (hT.below hb0) hl (by omega) (by omega)
  obtain ⟨R, hR⟩ : ∃ R, val X % 922334673882737115 = R := ⟨_, rfl⟩
  rw [hR] at HR
  have HSQ : Hid (∀ m, m ∣ 922334673882737115 → 0 < m → ∀ s, val X = s * s → sqB m m (R % m) = true) := hide fun m hd hm s hs => by
    rw [← hR]; exact sq_filter _ _ m hd hm s hs
  have hblk : w0.heap[w.heap.size]? = some (.cells #[.int .i64 63, .int .i64 65, .int .i64 11, .int .i64 17, .int .i64 19, .int .i64 23, .int .i64 29, .int .i64 31, .int .i64 37, .int .i64 41, .int .i64 43, .int .i64 47] 113) := by rw [← hw0]; exact heap_alloc_new ..
  have HBK := hide hblk
  have HW0 := hide hw0
  have HB := hide hb0
  clear hs hc hA hT hw0 hb0 hR hblk
  go_enter Tryz.func75, Tryz.ntmps75
  go_wp2
  refine wp_loop_rounds 13 ?_
  rw [rounds_succ]
  go_wp2
  rw [rounds_succ]
  go_wp2
  rw [rounds_succ]
  go_wp2
  rw [rounds_succ]
  go_wp2
  rw [rounds_succ]
  go_wp2
  rw [rounds_succ]
  go_wp2
  rw [rounds_succ]
  go_wp2
  rw [rounds_succ]
  go_wp2
  rw [rounds_succ]
  go_wp2
  rw [rounds_succ]
  go_wp2
  rw [rounds_succ]
  go_wp2
  rw [rounds_succ]
  go_wp2
  rw [rounds_succ]
  go_wp2_with fail
  rw [HW0.out]
  rw [show ((922334673882737115 : Nat) : Int) = 922334673882737115 from rfl] at HR
  refine HR.mono ?_
  rintro e w1 ⟨rfl, hb⟩
  obtain ⟨k0, k1, k2, k3, k4, k5, k6, k7, k8, k9, k10, k11⟩ := box12 (show w1.heap[w.heap.size]? = _ from block_up5 hb HBK.out)
  replace HB := hid_below HB hb
  clear HR hb HBK
  go_wp2
  clear k0 k1 k2 k3 k4 k5 k6 k7 k8 k9 k10 k11
  refine wp_loop_rounds 13 ?_
  rw [rounds_succ]
  obtain ⟨q, hq⟩ : ∃ q, R % 63 = q := ⟨_, rfl⟩
  have hql : q < 63 := by rw [← hq]; exact Nat.mod_lt _ (by omega)
  have eq1 : (R : Int) % 63 = (q : Int) := by omega
  have eq2 : (R : Int).tmod 63 = (q : Int) := by rw [Int.tmod_eq_emod_of_nonneg (by omega)]; exact eq1
  have q0 : (0 : Int) ≤ (q : Int) := by omega
  have q1 : (q : Int) < 65 := by omega
  have q2 : q < 65 := by omega
  have HQS := hide (fun (s : Nat) (hs : val X = s * s) => show sqB 63 63 q = true by
    have h := HSQ.out 63 (by decide) (by omega) s hs
    rw [hq] at h
    exact h)
  have HG := gather_any w1.heap.size 65 63 (w1.alloc (.cells Z 114)) ⟨Z, _, heap_alloc_new .., HZ.out.1, HZ.out.2⟩ (by omega) (by omega) (by omega)
  have hb0 : Below w1.heap.size w1 (w1.alloc (.cells Z 114)) := (Below.refl _ _).alloc (Nat.le_refl _) _
  have HB0 := hide hb0
  clear hb0 hq
  go_wp2_with fail
  refine HG.mono ?_
  rintro e w2 ⟨rfl, hfl, hbel, hszz⟩
  clear hszz
  have hbn := HB0.out.trans hbel
  have HBN := hid_below HB hbn
  have hc := hfl.cell q q2
  clear HG hfl hbel hbn HB0 HB
  have HB := HBN
  clear HBN
  by_cases hsq : sqB 63 63 q = true
  rotate_left
  · have hf : sqB 63 63 q = false := by simpa using hsq
    rw [hf] at hc
    clear hf
    go_wp2
    go_ret
    exact ⟨⟨false, rfl, fun s hs => absurd (HQS.out s hs) hsq⟩, HB.out⟩
  rw [hsq] at hc
  clear HQS hsq
  go_wp2
  clear hc eq1 eq2 q0 q1 q2 hql
  rw [rounds_succ]
  obtain ⟨q, hq⟩ : ∃ q, R % 65 = q := ⟨_, rfl⟩
  have hql : q < 65 := by rw [← hq]; exact Nat.mod_lt _ (by omega)
  have eq1 : (R : Int) % 65 = (q : Int) := by omega
  have eq2 : (R : Int).tmod 65 = (q : Int) := by rw [Int.tmod_eq_emod_of_nonneg (by omega)]; exact eq1
  have q0 : (0 : Int) ≤ (q : Int) := by omega
  have q1 : (q : Int) < 65 := by omega
  have q2 : q < 65 := by omega
  have HQS := hide (fun (s : Nat) (hs : val X = s * s) => show sqB 65 65 q = true by
    have h := HSQ.out 65 (by decide) (by omega) s hs
    rw [hq] at h
    exact h)
  have HG := gather_any w2.heap.size 65 65 (w2.alloc (.cells Z 114)) ⟨Z, _, heap_alloc_new .., HZ.out.1, HZ.out.2⟩ (by omega) (by omega) (by omega)
  have hb0 : Below w2.heap.size w2 (w2.alloc (.cells Z 114)) := (Below.refl _ _).alloc (Nat.le_refl _) _
  have HB0 := hide hb0
  clear hb0 hq
  go_wp2_with fail
  refine HG.mono ?_
  rintro e w3 ⟨rfl, hfl, hbel, hszz⟩
  clear hszz
  have hbn := HB0.out.trans hbel
  have HBN := hid_below HB hbn
  have hc := hfl.cell q q2
  clear HG hfl hbel hbn HB0 HB
  have HB := HBN
  clear HBN
  by_cases hsq : sqB 65 65 q = true
  rotate_left
  · have hf : sqB 65 65 q = false := by simpa using hsq
    rw [hf] at hc
    clear hf
    go_wp2
    go_ret
    exact ⟨⟨false, rfl, fun s hs => absurd (HQS.out s hs) hsq⟩, HB.out⟩
  rw [hsq] at hc
  clear HQS hsq
  go_wp2
  clear hc eq1 eq2 q0 q1 q2 hql
  rw [rounds_succ]
  obtain ⟨q, hq⟩ : ∃ q, R % 11 = q := ⟨_, rfl⟩
  have hql : q < 11 := by rw [← hq]; exact Nat.mod_lt _ (by omega)
  have eq1 : (R : Int) % 11 = (q : Int) := by omega
  have eq2 : (R : Int).tmod 11 = (q : Int) := by rw [Int.tmod_eq_emod_of_nonneg (by omega)]; exact eq1
  have q0 : (0 : Int) ≤ (q : Int) := by omega
  have q1 : (q : Int) < 65 := by omega
  have q2 : q < 65 := by omega
  have HQS := hide (fun (s : Nat) (hs : val X = s * s) => show sqB 11 11 q = true by
    have h := HSQ.out 11 (by decide) (by omega) s hs
    rw [hq] at h
    exact h)
  have HG := gather_any w3.heap.size 65 11 (w3.alloc (.cells Z 114)) ⟨Z, _, heap_alloc_new .., HZ.out.1, HZ.out.2⟩ (by omega) (by omega) (by omega)
  have hb0 : Below w3.heap.size w3 (w3.alloc (.cells Z 114)) := (Below.refl _ _).alloc (Nat.le_refl _) _
  have HB0 := hide hb0
  clear hb0 hq
  go_wp2_with fail
  refine HG.mono ?_
  rintro e w4 ⟨rfl, hfl, hbel, hszz⟩
  clear hszz
  have hbn := HB0.out.trans hbel
  have HBN := hid_below HB hbn
  have hc := hfl.cell q q2
  clear HG hfl hbel hbn HB0 HB
  have HB := HBN
  clear HBN
  by_cases hsq : sqB 11 11 q = true
  rotate_left
  · have hf : sqB 11 11 q = false := by simpa using hsq
    rw [hf] at hc
    clear hf
    go_wp2
    go_ret
    exact ⟨⟨false, rfl, fun s hs => absurd (HQS.out s hs) hsq⟩, HB.out⟩
  rw [hsq] at hc
  clear HQS hsq
  go_wp2
  clear hc eq1 eq2 q0 q1 q2 hql
  rw [rounds_succ]
  obtain ⟨q, hq⟩ : ∃ q, R % 17 = q := ⟨_, rfl⟩
  have hql : q < 17 := by rw [← hq]; exact Nat.mod_lt _ (by omega)
  have eq1 : (R : Int) % 17 = (q : Int) := by omega
  have eq2 : (R : Int).tmod 17 = (q : Int) := by rw [Int.tmod_eq_emod_of_nonneg (by omega)]; exact eq1
  have q0 : (0 : Int) ≤ (q : Int) := by omega
  have q1 : (q : Int) < 65 := by omega
  have q2 : q < 65 := by omega
  have HQS := hide (fun (s : Nat) (hs : val X = s * s) => show sqB 17 17 q = true by
    have h := HSQ.out 17 (by decide) (by omega) s hs
    rw [hq] at h
    exact h)
  have HG := gather_any w4.heap.size 65 17 (w4.alloc (.cells Z 114)) ⟨Z, _, heap_alloc_new .., HZ.out.1, HZ.out.2⟩ (by omega) (by omega) (by omega)
  have hb0 : Below w4.heap.size w4 (w4.alloc (.cells Z 114)) := (Below.refl _ _).alloc (Nat.le_refl _) _
  have HB0 := hide hb0
  clear hb0 hq
  go_wp2_with fail
  refine HG.mono ?_
  rintro e w5 ⟨rfl, hfl, hbel, hszz⟩
  clear hszz
  have hbn := HB0.out.trans hbel
  have HBN := hid_below HB hbn
  have hc := hfl.cell q q2
  clear HG hfl hbel hbn HB0 HB
  have HB := HBN
  clear HBN
  by_cases hsq : sqB 17 17 q = true
  rotate_left
  · have hf : sqB 17 17 q = false := by simpa using hsq
    rw [hf] at hc
    clear hf
    go_wp2
    go_ret
    exact ⟨⟨false, rfl, fun s hs => absurd (HQS.out s hs) hsq⟩, HB.out⟩
  rw [hsq] at hc
  clear HQS hsq
  go_wp2
  clear hc eq1 eq2 q0 q1 q2 hql
  rw [rounds_succ]
  obtain ⟨q, hq⟩ : ∃ q, R % 19 = q := ⟨_, rfl⟩
  have hql : q < 19 := by rw [← hq]; exact Nat.mod_lt _ (by omega)
  have eq1 : (R : Int) % 19 = (q : Int) := by omega
  have eq2 : (R : Int).tmod 19 = (q : Int) := by rw [Int.tmod_eq_emod_of_nonneg (by omega)]; exact eq1
  have q0 : (0 : Int) ≤ (q : Int) := by omega
  have q1 : (q : Int) < 65 := by omega
  have q2 : q < 65 := by omega
  have HQS := hide (fun (s : Nat) (hs : val X = s * s) => show sqB 19 19 q = true by
    have h := HSQ.out 19 (by decide) (by omega) s hs
    rw [hq] at h
    exact h)
  have HG := gather_any w5.heap.size 65 19 (w5.alloc (.cells Z 114)) ⟨Z, _, heap_alloc_new .., HZ.out.1, HZ.out.2⟩ (by omega) (by omega) (by omega)
  have hb0 : Below w5.heap.size w5 (w5.alloc (.cells Z 114)) := (Below.refl _ _).alloc (Nat.le_refl _) _
  have HB0 := hide hb0
  clear hb0 hq
  go_wp2_with fail
  refine HG.mono ?_
  rintro e w6 ⟨rfl, hfl, hbel, hszz⟩
  clear hszz
  have hbn := HB0.out.trans hbel
  have HBN := hid_below HB hbn
  have hc := hfl.cell q q2
  clear HG hfl hbel hbn HB0 HB
  have HB := HBN
  clear HBN
  by_cases hsq : sqB 19 19 q = true
  rotate_left
  · have hf : sqB 19 19 q = false := by simpa using hsq
    rw [hf] at hc
    clear hf
    go_wp2
    go_ret
    exact ⟨⟨false, rfl, fun s hs => absurd (HQS.out s hs) hsq⟩, HB.out⟩
  rw [hsq] at hc
  clear HQS hsq
  go_wp2
  clear hc eq1 eq2 q0 q1 q2 hql
  rw [rounds_succ]
  obtain ⟨q, hq⟩ : ∃ q, R % 23 = q := ⟨_, rfl⟩
  have hql : q < 23 := by rw [← hq]; exact Nat.mod_lt _ (by omega)
  have eq1 : (R : Int) % 23 = (q : Int) := by omega
  have eq2 : (R : Int).tmod 23 = (q : Int) := by rw [Int.tmod_eq_emod_of_nonneg (by omega)]; exact eq1
  have q0 : (0 : Int) ≤ (q : Int) := by omega
  have q1 : (q : Int) < 65 := by omega
  have q2 : q < 65 := by omega
  have HQS := hide (fun (s : Nat) (hs : val X = s * s) => show sqB 23 23 q = true by
    have h := HSQ.out 23 (by decide) (by omega) s hs
    rw [hq] at h
    exact h)
  have HG := gather_any w6.heap.size 65 23 (w6.alloc (.cells Z 114)) ⟨Z, _, heap_alloc_new .., HZ.out.1, HZ.out.2⟩ (by omega) (by omega) (by omega)
  have hb0 : Below w6.heap.size w6 (w6.alloc (.cells Z 114)) := (Below.refl _ _).alloc (Nat.le_refl _) _
  have HB0 := hide hb0
  clear hb0 hq
  go_wp2_with fail
  refine HG.mono ?_
  rintro e w7 ⟨rfl, hfl, hbel, hszz⟩
  clear hszz
  have hbn := HB0.out.trans hbel
  have HBN := hid_below HB hbn
  have hc := hfl.cell q q2
  clear HG hfl hbel hbn HB0 HB
  have HB := HBN
  clear HBN
  by_cases hsq : sqB 23 23 q = true
  rotate_left
  · have hf : sqB 23 23 q = false := by simpa using hsq
    rw [hf] at hc
    clear hf
    go_wp2
    go_ret
    exact ⟨⟨false, rfl, fun s hs => absurd (HQS.out s hs) hsq⟩, HB.out⟩
  rw [hsq] at hc
  clear HQS hsq
  go_wp2
  clear hc eq1 eq2 q0 q1 q2 hql
  rw [rounds_succ]
  obtain ⟨q, hq⟩ : ∃ q, R % 29 = q := ⟨_, rfl⟩
  have hql : q < 29 := by rw [← hq]; exact Nat.mod_lt _ (by omega)
  have eq1 : (R : Int) % 29 = (q : Int) := by omega
  have eq2 : (R : Int).tmod 29 = (q : Int) := by rw [Int.tmod_eq_emod_of_nonneg (by omega)]; exact eq1
  have q0 : (0 : Int) ≤ (q : Int) := by omega
  have q1 : (q : Int) < 65 := by omega
  have q2 : q < 65 := by omega
  have HQS := hide (fun (s : Nat) (hs : val X = s * s) => show sqB 29 29 q = true by
    have h := HSQ.out 29 (by decide) (by omega) s hs
    rw [hq] at h
    exact h)
  have HG := gather_any w7.heap.size 65 29 (w7.alloc (.cells Z 114)) ⟨Z, _, heap_alloc_new .., HZ.out.1, HZ.out.2⟩ (by omega) (by omega) (by omega)
  have hb0 : Below w7.heap.size w7 (w7.alloc (.cells Z 114)) := (Below.refl _ _).alloc (Nat.le_refl _) _
  have HB0 := hide hb0
  clear hb0 hq
  go_wp2_with fail
  refine HG.mono ?_
  rintro e w8 ⟨rfl, hfl, hbel, hszz⟩
  clear hszz
  have hbn := HB0.out.trans hbel
  have HBN := hid_below HB hbn
  have hc := hfl.cell q q2
  clear HG hfl hbel hbn HB0 HB
  have HB := HBN
  clear HBN
  by_cases hsq : sqB 29 29 q = true
  rotate_left
  · have hf : sqB 29 29 q = false := by simpa using hsq
    rw [hf] at hc
    clear hf
    go_wp2
    go_ret
    exact ⟨⟨false, rfl, fun s hs => absurd (HQS.out s hs) hsq⟩, HB.out⟩
  rw [hsq] at hc
  clear HQS hsq
  go_wp2
  clear hc eq1 eq2 q0 q1 q2 hql
  rw [rounds_succ]
  obtain ⟨q, hq⟩ : ∃ q, R % 31 = q := ⟨_, rfl⟩
  have hql : q < 31 := by rw [← hq]; exact Nat.mod_lt _ (by omega)
  have eq1 : (R : Int) % 31 = (q : Int) := by omega
  have eq2 : (R : Int).tmod 31 = (q : Int) := by rw [Int.tmod_eq_emod_of_nonneg (by omega)]; exact eq1
  have q0 : (0 : Int) ≤ (q : Int) := by omega
  have q1 : (q : Int) < 65 := by omega
  have q2 : q < 65 := by omega
  have HQS := hide (fun (s : Nat) (hs : val X = s * s) => show sqB 31 31 q = true by
    have h := HSQ.out 31 (by decide) (by omega) s hs
    rw [hq] at h
    exact h)
  have HG := gather_any w8.heap.size 65 31 (w8.alloc (.cells Z 114)) ⟨Z, _, heap_alloc_new .., HZ.out.1, HZ.out.2⟩ (by omega) (by omega) (by omega)
  have hb0 : Below w8.heap.size w8 (w8.alloc (.cells Z 114)) := (Below.refl _ _).alloc (Nat.le_refl _) _
  have HB0 := hide hb0
  clear hb0 hq
  go_wp2_with fail
  refine HG.mono ?_
  rintro e w9 ⟨rfl, hfl, hbel, hszz⟩
  clear hszz
  have hbn := HB0.out.trans hbel
  have HBN := hid_below HB hbn
  have hc := hfl.cell q q2
  clear HG hfl hbel hbn HB0 HB
  have HB := HBN
  clear HBN
  by_cases hsq : sqB 31 31 q = true
  rotate_left
  · have hf : sqB 31 31 q = false := by simpa using hsq
    rw [hf] at hc
    clear hf
    go_wp2
    go_ret
    exact ⟨⟨false, rfl, fun s hs => absurd (HQS.out s hs) hsq⟩, HB.out⟩
  rw [hsq] at hc
  clear HQS hsq
  go_wp2
  clear hc eq1 eq2 q0 q1 q2 hql
  rw [rounds_succ]
  obtain ⟨q, hq⟩ : ∃ q, R % 37 = q := ⟨_, rfl⟩
  have hql : q < 37 := by rw [← hq]; exact Nat.mod_lt _ (by omega)
  have eq1 : (R : Int) % 37 = (q : Int) := by omega
  have eq2 : (R : Int).tmod 37 = (q : Int) := by rw [Int.tmod_eq_emod_of_nonneg (by omega)]; exact eq1
  have q0 : (0 : Int) ≤ (q : Int) := by omega
  have q1 : (q : Int) < 65 := by omega
  have q2 : q < 65 := by omega
  have HQS := hide (fun (s : Nat) (hs : val X = s * s) => show sqB 37 37 q = true by
    have h := HSQ.out 37 (by decide) (by omega) s hs
    rw [hq] at h
    exact h)
  have HG := gather_any w9.heap.size 65 37 (w9.alloc (.cells Z 114)) ⟨Z, _, heap_alloc_new .., HZ.out.1, HZ.out.2⟩ (by omega) (by omega) (by omega)
  have hb0 : Below w9.heap.size w9 (w9.alloc (.cells Z 114)) := (Below.refl _ _).alloc (Nat.le_refl _) _
  have HB0 := hide hb0
  clear hb0 hq
  go_wp2_with fail
  refine HG.mono ?_
  rintro e w10 ⟨rfl, hfl, hbel, hszz⟩
  clear hszz
  have hbn := HB0.out.trans hbel
  have HBN := hid_below HB hbn
  have hc := hfl.cell q q2
  clear HG hfl hbel hbn HB0 HB
  have HB := HBN
  clear HBN
  by_cases hsq : sqB 37 37 q = true
  rotate_left
  · have hf : sqB 37 37 q = false := by simpa using hsq
    rw [hf] at hc
    clear hf
    go_wp2
    go_ret
    exact ⟨⟨false, rfl, fun s hs => absurd (HQS.out s hs) hsq⟩, HB.out⟩
  rw [hsq] at hc
  clear HQS hsq
  go_wp2
  clear hc eq1 eq2 q0 q1 q2 hql
  rw [rounds_succ]
  obtain ⟨q, hq⟩ : ∃ q, R % 41 = q := ⟨_, rfl⟩
  have hql : q < 41 := by rw [← hq]; exact Nat.mod_lt _ (by omega)
  have eq1 : (R : Int) % 41 = (q : Int) := by omega
  have eq2 : (R : Int).tmod 41 = (q : Int) := by rw [Int.tmod_eq_emod_of_nonneg (by omega)]; exact eq1
  have q0 : (0 : Int) ≤ (q : Int) := by omega
  have q1 : (q : Int) < 65 := by omega
  have q2 : q < 65 := by omega
  have HQS := hide (fun (s : Nat) (hs : val X = s * s) => show sqB 41 41 q = true by
    have h := HSQ.out 41 (by decide) (by omega) s hs
    rw [hq] at h
    exact h)
  have HG := gather_any w10.heap.size 65 41 (w10.alloc (.cells Z 114)) ⟨Z, _, heap_alloc_new .., HZ.out.1, HZ.out.2⟩ (by omega) (by omega) (by omega)
  have hb0 : Below w10.heap.size w10 (w10.alloc (.cells Z 114)) := (Below.refl _ _).alloc (Nat.le_refl _) _
  have HB0 := hide hb0
  clear hb0 hq
  go_wp2_with fail
  refine HG.mono ?_
  rintro e w11 ⟨rfl, hfl, hbel, hszz⟩
  clear hszz
  have hbn := HB0.out.trans hbel
  have HBN := hid_below HB hbn
  have hc := hfl.cell q q2
  clear HG hfl hbel hbn HB0 HB
  have HB := HBN
  clear HBN
  by_cases hsq : sqB 41 41 q = true
  rotate_left
  · have hf : sqB 41 41 q = false := by simpa using hsq
    rw [hf] at hc
    clear hf
    go_wp2
    go_ret
    exact ⟨⟨false, rfl, fun s hs => absurd (HQS.out s hs) hsq⟩, HB.out⟩
  rw [hsq] at hc
  clear HQS hsq
  go_wp2
  clear hc eq1 eq2 q0 q1 q2 hql
  rw [rounds_succ]
  obtain ⟨q, hq⟩ : ∃ q, R % 43 = q := ⟨_, rfl⟩
  have hql : q < 43 := by rw [← hq]; exact Nat.mod_lt _ (by omega)
  have eq1 : (R : Int) % 43 = (q : Int) := by omega
  have eq2 : (R : Int).tmod 43 = (q : Int) := by rw [Int.tmod_eq_emod_of_nonneg (by omega)]; exact eq1
  have q0 : (0 : Int) ≤ (q : Int) := by omega
  have q1 : (q : Int) < 65 := by omega
  have q2 : q < 65 := by omega
  have HQS := hide (fun (s : Nat) (hs : val X = s * s) => show sqB 43 43 q = true by
    have h := HSQ.out 43 (by decide) (by omega) s hs
    rw [hq] at h
    exact h)
  have HG := gather_any w11.heap.size 65 43 (w11.alloc (.cells Z 114)) ⟨Z, _, heap_alloc_new .., HZ.out.1, HZ.out.2⟩ (by omega) (by omega) (by omega)
  have hb0 : Below w11.heap.size w11 (w11.alloc (.cells Z 114)) := (Below.refl _ _).alloc (Nat.le_refl _) _
  have HB0 := hide hb0
  clear hb0 hq
  go_wp2_with fail
  refine HG.mono ?_
  rintro e w12 ⟨rfl, hfl, hbel, hszz⟩
  clear hszz
  have hbn := HB0.out.trans hbel
  have HBN := hid_below HB hbn
  have hc := hfl.cell q q2
  clear HG hfl hbel hbn HB0 HB
  have HB := HBN
  clear HBN
  by_cases hsq : sqB 43 43 q = true
  rotate_left
  · have hf : sqB 43 43 q = false := by simpa using hsq
    rw [hf] at hc
    clear hf
    go_wp2
    go_ret
    exact ⟨⟨false, rfl, fun s hs => absurd (HQS.out s hs) hsq⟩, HB.out⟩
  rw [hsq] at hc
  clear HQS hsq
  go_wp2
  clear hc eq1 eq2 q0 q1 q2 hql
  rw [rounds_succ]
  obtain ⟨q, hq⟩ : ∃ q, R % 47 = q := ⟨_, rfl⟩
  have hql : q < 47 := by rw [← hq]; exact Nat.mod_lt _ (by omega)
  have eq1 : (R : Int) % 47 = (q : Int) := by omega
  have eq2 : (R : Int).tmod 47 = (q : Int) := by rw [Int.tmod_eq_emod_of_nonneg (by omega)]; exact eq1
  have q0 : (0 : Int) ≤ (q : Int) := by omega
  have q1 : (q : Int) < 65 := by omega
  have q2 : q < 65 := by omega
  have HQS := hide (fun (s : Nat) (hs : val X = s * s) => show sqB 47 47 q = true by
    have h := HSQ.out 47 (by decide) (by omega) s hs
    rw [hq] at h
    exact h)
  have HG := gather_any w12.heap.size 65 47 (w12.alloc (.cells Z 114)) ⟨Z, _, heap_alloc_new .., HZ.out.1, HZ.out.2⟩ (by omega) (by omega) (by omega)
  have hb0 : Below w12.heap.size w12 (w12.alloc (.cells Z 114)) := (Below.refl _ _).alloc (Nat.le_refl _) _
  have HB0 := hide hb0
  clear hb0 hq
  go_wp2_with fail
  refine HG.mono ?_
  rintro e w13 ⟨rfl, hfl, hbel, hszz⟩
  clear hszz
  have hbn := HB0.out.trans hbel
  have HBN := hid_below HB hbn
  have hc := hfl.cell q q2
  clear HG hfl hbel hbn HB0 HB
  have HB := HBN
  clear HBN
  by_cases hsq : sqB 47 47 q = true
  rotate_left
  · have hf : sqB 47 47 q = false := by simpa using hsq
    rw [hf] at hc
    clear hf
    go_wp2
    go_ret
    exact ⟨⟨false, rfl, fun s hs => absurd (HQS.out s hs) hsq⟩, HB.out⟩
  rw [hsq] at hc
  clear HQS hsq
  go_wp2
  clear hc eq1 eq2 q0 q1 q2 hql
  rw [rounds_succ]
  go_wp2
  go_ret
  exact ⟨⟨true, rfl, fun _ _ => rfl⟩, HB.out⟩

end Go.Proofs.YteecnckfkcmefaaGreatDoor

/- Package roots: oddSecond, IsSquare. -/
namespace Go.Proofs.YteecnckfkcmefaaGreatDoor
open Go.RowKit
open Lm
attribute [local go_sem ↓] Go.wp_at_zero Go.wp_at_succ

namespace Lm

theorem sq_four {s z : Nat} (h : s * s = 4 * z) : ∃ t, z = t * t := by
  rcases Nat.mod_two_eq_zero_or_one s with h0 | h0
  · obtain ⟨t, rfl⟩ : ∃ t, s = 2 * t := ⟨s / 2, by omega⟩
    have e : 2 * t * (2 * t) = 4 * (t * t) := by grind
    exact ⟨t, by omega⟩
  · obtain ⟨t, rfl⟩ : ∃ t, s = 2 * t + 1 := ⟨s / 2, by omega⟩
    have e : (2 * t + 1) * (2 * t + 1) = 4 * (t * t + t) + 1 := by grind
    omega

theorem sq_shift (y : Nat) : ∀ u, (∃ s, 2 ^ (2 * u) * y = s * s) → ∃ s, y = s * s
  | 0, ⟨s, h⟩ => ⟨s, by simpa using h⟩
  | u + 1, ⟨s, h⟩ => by
    have e : 2 ^ (2 * (u + 1)) * y = 4 * (2 ^ (2 * u) * y) := by
      rw [show 2 * (u + 1) = 2 * u + 2 by omega, Nat.pow_add]; grind
    rw [e] at h
    exact sq_shift y u (sq_four h.symm)

theorem sq_shift_mk (y u s : Nat) (h : y = s * s) : 2 ^ (2 * u) * y = (2 ^ u * s) * (2 ^ u * s) := by
  have e : 2 ^ (2 * u) = 2 ^ u * 2 ^ u := by rw [← Nat.pow_add]; congr 1; omega
  rw [e, h]; grind

theorem sq_odd8 {s y : Nat} (h : y = s * s) (ho : y % 2 = 1) : y % 8 = 1 := by
  rcases Nat.mod_two_eq_zero_or_one s with h0 | h0
  · obtain ⟨t, rfl⟩ : ∃ t, s = 2 * t := ⟨s / 2, by omega⟩
    have e : 2 * t * (2 * t) = 2 * (2 * (t * t)) := by grind
    omega
  · obtain ⟨t, rfl⟩ : ∃ t, s = 2 * t + 1 := ⟨s / 2, by omega⟩
    rcases Nat.mod_two_eq_zero_or_one t with h1 | h1
    · obtain ⟨v, rfl⟩ : ∃ v, t = 2 * v := ⟨t / 2, by omega⟩
      have e : (2 * (2 * v) + 1) * (2 * (2 * v) + 1) = 8 * (2 * v * v + v) + 1 := by grind
      omega
    · obtain ⟨v, rfl⟩ : ∃ v, t = 2 * v + 1 := ⟨t / 2, by omega⟩
      have e : (2 * (2 * v + 1) + 1) * (2 * (2 * v + 1) + 1) = 8 * (2 * v * v + 3 * v + 1) + 1 := by grind
      omega

theorem not_sq_two {u y : Nat} (hy : y % 2 = 1) : ¬ ∃ s, 2 ^ (2 * u + 1) * y = s * s := by
  intro h
  have e : 2 ^ (2 * u + 1) * y = 2 ^ (2 * u) * (2 * y) := by rw [Nat.pow_succ]; grind
  rw [e] at h
  obtain ⟨s, hs⟩ := sq_shift (2 * y) u h
  rcases Nat.mod_two_eq_zero_or_one s with h0 | h0
  · obtain ⟨t, rfl⟩ : ∃ t, s = 2 * t := ⟨s / 2, by omega⟩
    have e : 2 * t * (2 * t) = 2 * (2 * (t * t)) := by grind
    omega
  · obtain ⟨t, rfl⟩ : ∃ t, s = 2 * t + 1 := ⟨s / 2, by omega⟩
    have e : (2 * t + 1) * (2 * t + 1) = 2 * (2 * (t * t + t)) + 1 := by grind
    omega

end Lm
namespace Lm

theorem root2_sq {x s : Nat} (h : IsRoot2 x s) : (s * s = x) ↔ ∃ t, x = t * t := by
  constructor
  · intro e; exact ⟨s, e.symm⟩
  · rintro ⟨t, e⟩
    have : s = t := by
      refine root2_uniq h ?_
      rw [e]
      refine ⟨Nat.le_refl _, ?_⟩
      have : (t + 1) * (t + 1) = t * t + 2 * t + 1 := by grind
      omega
    rw [this]; exact e.symm

theorem val_mod8 (X : List Nat) : val X % 8 = X.getD 0 0 % 8 := by
  match X with
  | [] => rfl
  | a :: t =>
    show (a + 18446744073709551616 * val t) % 8 = a % 8
    omega

end Lm

set_option maxRecDepth 20000 in
set_option maxHeartbeats 1000000 in
theorem oddSecond_any (va : Value) (X : List Nat) (s : Nat) (w : World) (hA : Arg w va X) (hT : Tab w) (hl : X.length ≤ 17592186044000) (hbx : blen (val X) ≤ 1125899906815900) (ho : val X % 2 = 1) (hs : IsRoot2 (val X) s) :
    Calls Tryz.prog 47 #[va] w fun e w' => (∃ v, e = .returned (.tuple #[v, .bool (decide (s * s = val X))])) ∧ Below w.heap.size w w' := by
  have hp : 0 < X.length := by
    rcases Nat.eq_zero_or_pos X.length with h | h
    · rw [List.length_eq_zero_iff.1 h] at ho
      simp [val] at ho
    · exact h
  have h8 := val_mod8 X
  obtain ⟨a1, c1, rfl, hcc, hcm, hlies⟩ := hA.form
  obtain ⟨b, off, rfl, hcell⟩ : ∃ b off, a1 = some ⟨b, off, none⟩ ∧ ∀ k, k < X.length → w.cell? ⟨b, off + k, none⟩ = some (.int .u64 ((X.getD k 0 : Nat) : Int)) := by
    rcases hlies with h0 | ⟨b, off, e, hc⟩
    · rw [h0] at hp; simp at hp
    · exact ⟨b, off, e, hc⟩
  have hc0 := hcell 0 hp
  rw [Nat.add_zero] at hc0
  have hx0 := limb_lt hA.limbs 0
  obtain ⟨x0, hx0'⟩ : ∃ x0, X.getD 0 0 = x0 := ⟨_, rfl⟩
  rw [hx0'] at hc0 hx0 h8
  obtain ⟨m, em, hm⟩ : ∃ m : Nat, (x0 : Int) % 8 = (m : Int) ∧ x0 % 8 = m := ⟨x0 % 8, by omega, rfl⟩
  have emt : (x0 : Int).tmod 8 = (m : Int) := by rw [Int.tmod_eq_emod_of_nonneg (by omega)]; exact em
  have p0 : (0 : Int) < (X.length : Int) := by omega
  rw [hm] at h8
  have HSQ := hide (root2_sq hs)
  obtain ⟨bb, hbb⟩ : ∃ bb, decide (s * s = val X) = bb := ⟨_, rfl⟩
  rw [hbb]
  by_cases h1 : m = 1
  · subst h1
    have FL := leaves_any _ X w hA hT (by omega)
    have FS := hide (fun (w1 : World) (hb1 : Below w.heap.size w w1) => rsecond_any (blen (val X)) X _ w1 s (Nat.le_refl _) hbx (hA.below hb1) (hT.below hb1) hl hs)
    have HBB := hide hbb
    have HLE := hide hs.1
    clear hA hT hs hcell hlies h8 hm hbb
    go_enter Tryz.func47, Tryz.ntmps47
    go_wp2_with fail
    refine FL.mono ?_
    rintro e w1 ⟨⟨lb, rfl, hlb⟩, hb1⟩
    have HB1 := hide hb1
    have F2 := FS.out w1 hb1
    clear FL FS hb1
    rcases Bool.eq_false_or_eq_true lb with hlt | hlf
    · subst hlt
      clear hlb
      go_wp2_with fail
      refine F2.mono ?_
      rintro e w2 ⟨⟨v1, v2, rfl, n1, n2⟩, hb2⟩
      have HB2 := hid_below HB1 hb2
      obtain ⟨ao, n, cap, rfl, hn⟩ := n2.len0
      by_cases hn0 : n = 0
      · have hz := hn.1 hn0
        subst hn0
        obtain rfl : bb = true := by
          rw [← HBB.out]
          refine decide_eq_true ?_
          have := HLE.out
          omega
        clear n1 n2 hb2 F2 hn hz
        go_wp2
        go_returns
        exact ⟨⟨_, rfl⟩, HB2.out⟩
      · have hnp : (0 : Int) < (n : Int) := by omega
        obtain rfl : bb = false := by
          rw [← HBB.out]
          refine decide_eq_false fun h => hn0 (hn.2 ?_)
          omega
        clear n1 n2 hb2 F2 hn hn0
        go_wp2
        go_returns
        exact ⟨⟨_, rfl⟩, HB2.out⟩
    · subst hlf
      obtain rfl : bb = false := by
        rw [← HBB.out]
        refine decide_eq_false fun h => ?_
        have := hlb s h.symm
        cases this
      clear hlb F2
      go_wp2
      go_returns
      exact ⟨⟨_, rfl⟩, HB1.out⟩
  · have hne : ((m : Int) != 1) = true := by
      rw [bne_iff_ne]; omega
    have hn1 : ((m : Int) == 1) = false := by rw [beq_eq_false_iff_ne]; omega
    obtain rfl : bb = false := by
      rw [← hbb]
      refine decide_eq_false fun h => h1 ?_
      have := sq_odd8 h.symm ho
      omega
    clear hA hT hs hcell hlies h8 hm hbb h1
    go_enter Tryz.func47, Tryz.ntmps47
    go_wp2
    go_returns
    exact ⟨⟨_, rfl⟩, Below.refl _ _⟩

set_option maxRecDepth 20000 in
set_option maxHeartbeats 1000000 in
theorem isSquare_any (va : Value) (X : List Nat) (s : Nat) (w : World) (hA : Arg w va X) (hT : Tab w) (hl : X.length ≤ 17592186043904) (hs : IsRoot2 (val X) s) :
    Calls Tryz.prog 15 #[va] w fun e w' => e = .returned (.tuple #[.bool (decide (s * s = val X)), .int .i64 0]) ∧ Below w.heap.size w w' := by
  have hbx : blen (val X) ≤ 1125899906809856 := by
    have := (blen_le_iff _ _).2 (by have := val_lt hA.limbs; rw [W_pow] at this; exact this)
    omega
  obtain ⟨a1, c1, rfl, T1, A1⟩ := hA.rtrim
  have HTR := T1 w (Below.refl _ _)
  have hlt := tr_length_le X
  obtain ⟨bb, hbb⟩ : ∃ bb, decide (s * s = val X) = bb := ⟨_, rfl⟩
  rw [hbb]
  have hsq := root2_sq hs
  by_cases h0 : val X = 0
  · have ht : tr X = [] := val_zero (tr_tr X) (by rw [val_tr]; exact h0)
    rw [ht] at HTR
    obtain rfl : bb = true := by
      rw [← hbb]
      exact decide_eq_true (hsq.2 ⟨0, by omega⟩)
    clear hA A1 T1 hs hbb hsq
    go_enter Tryz.func15, Tryz.ntmps15
    go_wp2_with fail
    refine HTR.mono ?_
    rintro e wn ⟨rfl, hw⟩; rw [hw]; clear hw wn HTR
    go_wp2
    go_returns
    exact ⟨rfl, Below.refl _ _⟩
  · have hn0 : (((tr X).length : Int) == 0) = false := by
      rw [beq_eq_false_iff_ne]
      intro h
      have h2 : (tr X).length = 0 := by omega
      have h3 := val_tr X
      rw [List.length_eq_zero_iff.1 h2] at h3
      exact h0 h3.symm
    have TL := tail_any _ (tr X) w A1 hT
    have HA1 := hide A1
    have HT := hide hT
    have HSQ := hide hsq
    have HBB := hide hbb
    have HX := hide (And.intro hbx h0)
    clear hA T1 hs hsq hbb A1 hT
    go_enter Tryz.func15, Tryz.ntmps15
    go_wp2_with fail
    refine HTR.mono ?_
    rintro e wn ⟨rfl, hw⟩; rw [hw]; clear hw wn HTR
    go_wp2_with fail
    refine TL.mono ?_
    rintro e wn ⟨⟨t, ht1, rfl, _, ht3⟩, hw⟩; rw [hw]; clear hw wn TL
    have hti := ht3 (by rw [val_tr]; exact HX.out.2)
    rw [val_tr] at hti
    have hform := isTail_of hti
    have hodd := hti.2
    clear ht3
    rcases Nat.mod_two_eq_zero_or_one t with hp | hp
    · have ep : (t : Int) % 2 = 0 := by omega
      obtain ⟨u, hu⟩ : ∃ u, t = 2 * u := ⟨t / 2, by omega⟩
      have FD := rdown_any _ (tr X) t w HA1.out (by omega) (by omega)
      rw [val_tr] at FD
      have HF := hide (And.intro hu (And.intro hti hodd))
      clear hp hu hti hform hodd
      go_wp2_with fail
      refine FD.mono ?_
      rintro e w1 ⟨⟨v1, r1, rfl, d1, p1, t1⟩, hb1⟩
      have l1 : r1.length ≤ 17592186044000 := few_of t1 p1 (Nat.le_trans (blen_mono (Nat.div_le_self _ _)) (by have := HX.out.1; omega))
      obtain ⟨z, hz⟩ := root2_is (val r1)
      have FO := oddSecond_any v1 r1 z w1 (d1.arg (by omega)) (HT.out.below hb1) l1 (by rw [p1]; exact Nat.le_trans (blen_mono (Nat.div_le_self _ _)) (by have := HX.out.1; omega)) (by rw [p1]; exact HF.out.2.2) hz
      have hdec : decide (z * z = val r1) = bb := by
        rw [← HBB.out]
        obtain ⟨hu, hti, hodd⟩ := HF.out
        have hx : val X = 2 ^ (2 * u) * val r1 := by
          rw [p1, ← hu]
          have := Nat.div_add_mod (val X) (2 ^ t)
          rw [hti.1] at this
          omega
        have h1 := root2_sq hz
        have h2 := HSQ.out
        have h3 : (∃ t, val r1 = t * t) ↔ ∃ t, val X = t * t := by
          constructor
          · rintro ⟨y, hy⟩; exact ⟨_, by rw [hx]; exact sq_shift_mk _ u y hy⟩
          · intro h; rw [hx] at h; exact sq_shift _ u h
        by_cases h4 : z * z = val r1
        · rw [decide_eq_true h4, decide_eq_true (h2.2 (h3.1 (h1.1 h4)))]
        · rw [decide_eq_false h4, decide_eq_false fun h => h4 (h1.2 (h3.2 (h2.1 h)))]
      rw [hdec] at FO
      have HB1 := hide hb1
      clear FD d1 p1 t1 hb1 hz hdec
      go_wp2_with fail
      refine FO.mono ?_
      rintro e w2 ⟨⟨v2, rfl⟩, hb2⟩
      have HB2 := hid_below HB1 hb2
      clear FO hb2
      go_wp2
      go_returns
      exact ⟨rfl, HB2.out⟩
    · have ep : (t : Int) % 2 = 1 := by omega
      obtain ⟨u, hu⟩ : ∃ u, t = 2 * u + 1 := ⟨t / 2, by omega⟩
      obtain rfl : bb = false := by
        rw [← HBB.out]
        refine decide_eq_false fun h => ?_
        have h5 := HSQ.out.1 h
        refine not_sq_two (u := u) (y := val X / 2 ^ t) hodd ?_
        rw [← hu]
        have := Nat.div_add_mod (val X) (2 ^ t)
        rw [hti.1] at this
        obtain ⟨y, hy⟩ := h5
        exact ⟨y, by omega⟩
      clear hp hu hti hform hodd
      go_wp2
      go_returns
      exact ⟨rfl, Below.refl _ _⟩

end Go.Proofs.YteecnckfkcmefaaGreatDoor
