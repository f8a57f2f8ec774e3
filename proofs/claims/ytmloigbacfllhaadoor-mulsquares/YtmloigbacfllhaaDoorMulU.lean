/- Package mul: valuesOf. -/
import Derived.Test.YtmloigbacfllhaaDoorMulT
import Derived.Handy
import Derived.Deep.QuietTactic
import Derived.BigQuiet
namespace Go.Proofs.YtmloigbacfllhaaDoor
open Go.RowKit
open Lm

theorem below_drewN {B : Nat} {a w : World} (h : Below B a w) (n : Nat) : Below B a (w.drewN n) := ⟨h.os, h.tape, h.output, h.size, h.block⟩

/-- 'part' of a whole block. -/
theorem part_of (g n at' m : Nat) (w : World) (hn : n ≤ 1125899906842624) (h : at' + m ≤ n) (h0 : 0 < m) :
    Calls Tryd.prog 88 #[.slice (some ⟨g, 0, none⟩) n n, .int .i64 at', .int .i64 m] w fun e w' => e = .returned (.slice (some ⟨g, at', none⟩) m (n - at')) ∧ w' = w := by
  have := part_front g 0 n n at' m w hn (Nat.le_refl _) (by omega) h (by omega)
  rwa [Nat.zero_add] at this

theorem part_of0 (g n m : Nat) (w : World) (hn : n ≤ 1125899906842624) (h : m ≤ n) (h0 : 0 < m) :
    Calls Tryd.prog 88 #[.slice (some ⟨g, 0, none⟩) n n, .int .i64 0, .int .i64 m] w fun e w' => e = .returned (.slice (some ⟨g, 0, none⟩) m n) ∧ w' = w :=
  part_of g n 0 m w hn (by omega) h0

/-- Four pieces of one length, and their values. -/
structure Q4 (M : List Nat) (m d2 d3 e0 e1 e2 e3 : Nat) : Prop where
  h2 : d2 = m + m
  h3 : d3 = m + m + m
  len : M.length = m + m + m + m
  limbs : Limbs M
  v0 : sv M 0 m = e0
  v1 : sv M m m = e1
  v2 : sv M d2 m = e2
  v3 : sv M d3 m = e3

theorem Q4.at0 {M M' : List Nat} {m d2 d3 e0 e1 e2 e3 e : Nat} (h : Q4 M m d2 d3 e0 e1 e2 e3) (ho : Out M M' 0 m) (hl : Limbs M') (hv : sv M' 0 m = e) : Q4 M' m d2 d3 e e1 e2 e3 := by
  obtain ⟨a, b, c, _, v0, v1, v2, v3⟩ := h
  exact ⟨a, b, by rw [ho.len, c], hl, hv, by rw [ho.sv m m (by omega), v1], by rw [ho.sv d2 m (by omega), v2], by rw [ho.sv d3 m (by omega), v3]⟩

theorem Q4.at1 {M M' : List Nat} {m d2 d3 e0 e1 e2 e3 e : Nat} (h : Q4 M m d2 d3 e0 e1 e2 e3) (ho : Out M M' m (m + m)) (hl : Limbs M') (hv : sv M' m m = e) : Q4 M' m d2 d3 e0 e e2 e3 := by
  obtain ⟨a, b, c, _, v0, v1, v2, v3⟩ := h
  exact ⟨a, b, by rw [ho.len, c], hl, by rw [ho.sv 0 m (by omega), v0], hv, by rw [ho.sv d2 m (by omega), v2], by rw [ho.sv d3 m (by omega), v3]⟩

theorem Q4.at2 {M M' : List Nat} {m d2 d3 e0 e1 e2 e3 e : Nat} (h : Q4 M m d2 d3 e0 e1 e2 e3) (ho : Out M M' d2 (d2 + m)) (hl : Limbs M') (hv : sv M' d2 m = e) : Q4 M' m d2 d3 e0 e1 e e3 := by
  obtain ⟨a, b, c, _, v0, v1, v2, v3⟩ := h
  exact ⟨a, b, by rw [ho.len, c], hl, by rw [ho.sv 0 m (by omega), v0], by rw [ho.sv m m (by omega), v1], hv, by rw [ho.sv d3 m (by omega), v3]⟩

theorem Q4.at3 {M M' : List Nat} {m d2 d3 e0 e1 e2 e3 e : Nat} (h : Q4 M m d2 d3 e0 e1 e2 e3) (ho : Out M M' d3 (d3 + m)) (hl : Limbs M') (hv : sv M' d3 m = e) : Q4 M' m d2 d3 e0 e1 e2 e := by
  obtain ⟨a, b, c, _, v0, v1, v2, v3⟩ := h
  exact ⟨a, b, by rw [ho.len, c], hl, by rw [ho.sv 0 m (by omega), v0], by rw [ho.sv m m (by omega), v1], by rw [ho.sv d2 m (by omega), v2], hv⟩

theorem sv_zeros (n o m : Nat) : sv (List.replicate n 0) o m = 0 := by
  unfold sv seg
  rw [List.drop_replicate, List.take_replicate, val_replicate]

theorem Q4.zero (m d2 d3 R : Nat) (h2 : d2 = m + m) (h3 : d3 = m + m + m) (hR : R = m + m + m + m) : Q4 (List.replicate R 0) m d2 d3 0 0 0 0 :=
  ⟨h2, h3, by simp [hR], limbs_replicate _, sv_zeros _ _ _, sv_zeros _ _ _, sv_zeros _ _ _, sv_zeros _ _ _⟩

/-- A list laid over noughts. -/
theorem lay_over (M X : List Nat) (o m : Nat) (h0 : sv M o m = 0) (hX : X.length ≤ m) (hl : o + m ≤ M.length) : sv (lay M o X) o m = val X := by
  obtain ⟨d, rfl⟩ : ∃ d, m = X.length + d := ⟨m - X.length, by omega⟩
  rw [sv_split _ _ _ _ (by omega)] at h0
  rw [sv_split _ _ _ _ (by rw [lay_length]; omega), lay_sv _ _ _ (by omega), (lay_out X M o).sv (o + X.length) d (by omega)]
  omega

theorem Arg.recap {w : World} {b off n cap : Nat} {X : List Nat} (h : Arg w (.slice (some ⟨b, off, none⟩) n cap) X) (cap' : Nat) (h1 : n ≤ cap') (h2 : cap' ≤ 9223372036854775807) : Arg w (.slice (some ⟨b, off, none⟩) n cap') X := by
  obtain ⟨ao, c, e, _, _, hl⟩ := h.form
  cases e
  exact ⟨⟨_, _, rfl, h1, h2, hl⟩, h.limbs, h.few, fun n c e => by cases e⟩

/-- The rest of a list, as 'part' tells it. -/
theorem second_arg {w : World} {b off cap q off2 cap2 : Nat} {X : List Nat} (hA : Arg w (.slice (some ⟨b, off, none⟩) X.length cap) X) (ho : off2 = off + q ∨ X.length = q) (hq : q ≤ X.length) (h1 : X.length - q ≤ cap2) (h2 : cap2 ≤ cap) : Arg w (.slice (some ⟨b, off2, none⟩) (X.length - q) cap2) (X.drop q) := by
  obtain ⟨_, _, e, _, hm, _⟩ := hA.form
  cases e
  rcases ho with rfl | rfl
  · exact (hA.drop q hq).recap cap2 h1 (by omega)
  · rw [List.drop_length, Nat.sub_self]
    exact ⟨⟨_, _, rfl, by simp, by omega, .inl rfl⟩, (by intro z hz; cases hz), by simp, fun n c e => by cases e⟩

/-- 'copy' over noughts. -/
theorem copy_q (g o n cap : Nat) (M : List Nat) (a1 : Option Addr) (c1 : Nat) (P : List Nat) (w : World) (hB : Blk w g M) (hl : Limbs M) (hLP : Limbs P) (h0 : sv M o n = 0) (ho : o + n ≤ M.length) (hP : P.length ≤ n) (hL : Lies w a1 P) :
    ∃ (w' : World) (M' : List Nat), (∀ ty, (Builtin.copy_ #[23, 23] ty #[.slice (some ⟨g, o, none⟩) n cap, .slice a1 P.length c1]).run Tryd.prog w = .ok (.int .i64 (P.length : Int)) w') ∧ Blk w' g M' ∧ Limbs M' ∧ Fr g w w' ∧ Out M M' o (o + n) ∧ sv M' o n = val P :=
  ⟨_, lay M o P, fun ty => copy_run g o n cap M a1 c1 P w ty hB ho hL hP, Blk.setCells P o hB, lay_limbs P hLP M o hl, (Fr.refl g w).setCells (P.map lv) o, (lay_out P M o).wider (Nat.le_refl _) (by omega), lay_over M P o n h0 hP ho⟩

theorem Lies.arg {w : World} {b off n cap : Nat} {X : List Nat} (h : Arg w (.slice (some ⟨b, off, none⟩) n cap) X) : Lies w (some ⟨b, off, none⟩) X := by
  obtain ⟨_, _, e, _, _, hl⟩ := h.form
  cases e
  exact hl

/-- A box of four. -/
theorem box4 {w : World} {h : Nat} {a b c d : Value} {t : TypeId} (e : w.heap[h]? = some (.cells #[a, b, c, d] t)) : w.cell? ⟨h, 0, none⟩ = some a ∧ w.cell? ⟨h, 1, none⟩ = some b ∧ w.cell? ⟨h, 2, none⟩ = some c ∧ w.cell? ⟨h, 3, none⟩ = some d :=
  ⟨by simp [World.cell?, e], by simp [World.cell?, e], by simp [World.cell?, e], by simp [World.cell?, e]⟩

theorem box4f {w : World} {h : Nat} {a b c d : Value} {t : TypeId} (e : w.heap[h]? = some (.cells #[a, b, c, d] t)) : ∀ k, w.frozen? ⟨h, k, none⟩ = false := fun k => by simp [World.frozen?, e]

theorem box4_set {w : World} {h : Nat} {a b c d : Value} {t : TypeId} (e : w.heap[h]? = some (.cells #[a, b, c, d] t)) (u : Value) : (w.setCell ⟨h, 3, none⟩ u).heap[h]? = some (.cells #[a, b, c, u] t) := by
  have hlt := lt_of_block e
  have h' : w.heap[h] = .cells #[a, b, c, d] t := by simpa [Array.getElem?_eq_getElem hlt] using e
  show (w.heap.modify h _)[h]? = _
  rw [Array.getElem?_eq_getElem (by simpa using hlt), Array.getElem_modify_self, h']
  rfl

theorem box_modify {w : World} {h k : Nat} {cs : Array Value} {t : TypeId} (e : w.heap[h]? = some (.cells cs t)) (u : Value) : (w.setCell ⟨h, k, none⟩ u).heap[h]? = some (.cells (cs.setIfInBounds k u) t) := by
  have hlt := lt_of_block e
  have h' : w.heap[h] = .cells cs t := by simpa [Array.getElem?_eq_getElem hlt] using e
  show (w.heap.modify h _)[h]? = _
  rw [Array.getElem?_eq_getElem (by simpa using hlt), Array.getElem_modify_self, h']
  rfl

theorem box4_all {w : World} {h : Nat} {a b c d a' b' c' d' : Value} {t : TypeId} (e : w.heap[h]? = some (.cells #[a, b, c, d] t)) :
    ((((w.setCell ⟨h, 0, none⟩ a').setCell ⟨h, 1, none⟩ b').setCell ⟨h, 2, none⟩ c').setCell ⟨h, 3, none⟩ d').heap[h]? = some (.cells #[a', b', c', d'] t) :=
  box_modify (box_modify (box_modify (box_modify e a') b') c') d'

/-- What 'valuesOf' answers: the values lie in one new block. -/
def ValsDone (w : World) (s x0 x1 x2 : Nat) (e : Ending) (w' : World) : Prop :=
  ∃ (g m d2 d3 R e0 : Nat) (M : List Nat), m = s + 1 ∧ R = m + m + m + m ∧
    e = .returned (.agg #[.slice (some ⟨g, m, none⟩) m (R - m), .slice (some ⟨g, d2, none⟩) m (R - d2), .slice (some ⟨g, d3, none⟩) m (R - d3), .bool (decide (x0 + x2 < x1))]) ∧
    w.heap.size ≤ g ∧ Blk w' g M ∧ Below w.heap.size w w' ∧ Q4 M m d2 d3 e0 (x0 + x1 + x2) (x0 + x1 * 2 + x2 * 4) (if x0 + x2 < x1 then x1 - (x0 + x2) else x0 + x2 - x1)

/-- Room for the values. -/
theorem vals_fit (x0 x1 x2 s m : Nat) (h0 : x0 < 18446744073709551616 ^ s) (h1 : x1 < 18446744073709551616 ^ s) (h2 : x2 < 18446744073709551616 ^ s) (hm : m = s + 1) :
    x0 + x2 < 18446744073709551616 ^ m ∧ x0 + x2 + x1 < 18446744073709551616 ^ m ∧ x1 < 18446744073709551616 ^ m ∧ x0 + x1 * 2 < 18446744073709551616 ^ m ∧ x0 + x1 * 2 + x2 * 4 < 18446744073709551616 ^ m := by
  subst hm
  rw [Nat.pow_succ]
  generalize (18446744073709551616 : Nat) ^ s = P at *
  omega

set_option maxRecDepth 20000 in
set_option maxHeartbeats 1000000 in
theorem valuesOf_any (b off c1 s : Nat) (X : List Nat) (w : World) (hA : Arg w (.slice (some ⟨b, off, none⟩) X.length c1) X) (hs0 : 0 < s) (hs1 : 2 * s ≤ X.length) (hs2 : X.length ≤ 3 * s) (hlX : X.length ≤ 4398046511103) :
    Calls Tryd.prog 80 #[.slice (some ⟨b, off, none⟩) X.length c1, .int .i64 s] w (ValsDone w s (val (X.take s)) (val ((X.drop s).take s)) (val (X.drop (2 * s)))) := by
  obtain ⟨_, _, e0, hcc1, hcm1, _⟩ := hA.form
  cases e0
  have hX := hA.few
  have hbw := hA.block (by omega)
  obtain ⟨i0, hi, hz0, hz1, hz2⟩ := info_parts Tryd.infoU
  obtain ⟨m, em, hm1, hm2⟩ : ∃ m : Nat, (s : Int) + 1 = (m : Int) ∧ m ≤ s + 1 ∧ s + 1 ≤ m := ⟨s + 1, by omega, by omega, by omega⟩
  obtain ⟨R, eR, hR1, hR2⟩ : ∃ R : Nat, (4 : Int) * (m : Int) = (R : Int) ∧ R ≤ 4 * m ∧ 4 * m ≤ R := ⟨4 * m, by omega, by omega, by omega⟩
  obtain ⟨q, eq, hq1, hq2⟩ : ∃ q : Nat, (2 : Int) * (s : Int) = (q : Int) ∧ q ≤ 2 * s ∧ 2 * s ≤ q := ⟨2 * s, by omega, by omega, by omega⟩
  obtain ⟨d2, ed2, hd2a, hd2b⟩ : ∃ d : Nat, (2 : Int) * (m : Int) = (d : Int) ∧ d ≤ 2 * m ∧ 2 * m ≤ d := ⟨2 * m, by omega, by omega, by omega⟩
  obtain ⟨d3, ed3, hd3a, hd3b⟩ : ∃ d : Nat, (3 : Int) * (m : Int) = (d : Int) ∧ d ≤ 3 * m ∧ 3 * m ≤ d := ⟨3 * m, by omega, by omega, by omega⟩
  have wq : IntKind.i64.wrap (q : Int) = (q : Int) := by rw [IntKind.wrap_i64]; omega
  have ks0 : (0 : Int) ≤ (s : Int) := by omega
  have ks1 : (s : Int) ≤ (X.length : Int) := by omega
  have ks2 : (s : Int) ≤ (c1 : Int) := by omega
  have HP1 := fun w => part_front b off X.length c1 s s w hX hcc1 hcm1 (by omega) (by omega)
  obtain ⟨off2, cap2, ho2, hp2a, hp2b, HP2⟩ := part_rest b off X.length c1 q s hX hcc1 hcm1 (by omega) (by omega) (by omega)
  have HO2 := hide ho2
  clear ho2
  go_enter Tryd.func80, Tryd.ntmps80
  go_wp2
  go_quiet (first | (go_at_call_of 88 q; exact Calls.quiet_of_same (HP2 _)) | (go_at_call 88; exact Calls.quiet_of_same (HP1 _)))
  clear HP1 HP2
  obtain ⟨w1, hw1⟩ : ∃ w1, w1 = (w.alloc (.cells #[.slice none 0 0, .slice none 0 0, .slice none 0 0, .bool false] 93)).drewN nq := ⟨_, rfl⟩
  have hbel1 : Below w.heap.size w w1 := by rw [hw1]; exact below_drewN ((Below.refl _ _).alloc (Nat.le_refl _) _) _
  have hs1 : w1.heap.size = w.heap.size + 1 := by rw [hw1]; exact World.size_alloc _ _
  have hb1 : w1.heap[w.heap.size]? = some (.cells #[.slice none 0 0, .slice none 0 0, .slice none 0 0, .bool false] 93) := by rw [hw1]; exact heap_alloc_new ..
  rw [← hw1]
  have HX1 := hide hb1
  have HB1 := hide hbel1
  clear hw1 hb1 hbel1
  go_wp2_with (at_make; refine wpList_make_full _ rfl _ _ 23 rfl w1.heap.size 38 i0 (.int .u64 0) 1 Tryd.underlying23 hi hz0 hz1 .i64 .i64 _ _ R rfl rfl (by omega) (by omega) (by rw [hz2]; omega) (by unfold maxLen; omega) (Nat.le_refl _) ?_; intro w3 hown hgrow)
  have hm3 : Blk w3 (w.heap.size + 1) (List.replicate R 0) := by rw [← hs1]; exact Blk.made hown
  have hbel3 : Below w1.heap.size w1 w3 := (Below.refl _ _).grown hgrow (Nat.le_refl _) (fun k hk => by cases hk)
  have hX3 : w3.heap[w.heap.size]? = some (.cells #[.slice none 0 0, .slice none 0 0, .slice none 0 0, .bool false] 93) := by rw [hbel3.block w.heap.size (by omega)]; exact HX1.out
  have HB3 := hide (HB1.out.trans (hbel3.mono HB1.out.size))
  obtain ⟨g, hg⟩ : ∃ g, g = w.heap.size + 1 := ⟨_, rfl⟩
  rw [← hg] at hm3 ⊢
  have hgw : w.heap.size < g := by omega
  have HX3 := hide hX3
  have HM3 := hide hm3
  have HG := hide hg
  clear hown hgrow hi hz0 hz1 hz2 hbel3 HX1 HB1 hs1 hX3 hm3 hg
  refine (part_of0 g R m w3 (by omega) (by omega) (by omega)).mono ?_
  rintro e w4 ⟨rfl, hw⟩; subst hw
  go_wp2_with fail
  refine (part_of g R m m w4 (by omega) (by omega) (by omega)).mono ?_
  rintro e w5 ⟨rfl, hw⟩; subst hw
  go_wp2_with fail
  refine (part_of g R d2 m w5 (by omega) (by omega) (by omega)).mono ?_
  rintro e w6 ⟨rfl, hw⟩; subst hw
  go_wp2_with fail
  refine (part_of g R d3 m w6 (by omega) (by omega) (by omega)).mono ?_
  rintro e w7 ⟨rfl, hw⟩; subst hw
  obtain ⟨w8, hw8⟩ : ∃ w8, w8 = w7.alloc (.cells #[.slice (some ⟨g, m, none⟩) m (R - m), .slice (some ⟨g, d2, none⟩) m (R - d2), .slice (some ⟨g, d3, none⟩) m (R - d3), .bool false] 93) := ⟨_, rfl⟩
  obtain ⟨h, hh⟩ : ∃ h, h = w7.heap.size := ⟨_, rfl⟩
  have hbel8 : Below w7.heap.size w7 w8 := by rw [hw8]; exact (Below.refl _ _).alloc (Nat.le_refl _) _
  have hgh : g < h := by rw [hh]; exact HM3.out.lt
  have BX8 := hide (show w8.heap[h]? = some (.cells #[.slice (some ⟨g, m, none⟩) m (R - m), .slice (some ⟨g, d2, none⟩) m (R - d2), .slice (some ⟨g, d3, none⟩) m (R - d3), .bool false] 93) by rw [hw8, hh]; exact heap_alloc_new ..)
  have RX8 := hide (show w8.heap[w.heap.size]? = some (.cells #[.slice none 0 0, .slice none 0 0, .slice none 0 0, .bool false] 93) by rw [hbel8.block w.heap.size (by have := HM3.out.lt; omega)]; exact HX3.out)
  have B8 := HM3.out.below' hbel8
  have W8 := hide (HB3.out.trans (hbel8.mono HB3.out.size))
  have hbg : b ≠ g := by omega
  have hsz8 : h < w8.heap.size := by rw [hw8, hh, World.size_alloc]; omega
  have Q0 := Q4.zero m d2 d3 R (by omega) (by omega) (by omega)
  have A8 := hA.below W8.out
  have hq : q = 2 * s := by omega
  rw [← hq]
  have lP0 : (X.take s).length = s := by simp; omega
  have fx0 := val_take_lt' hA.limbs s (by omega)
  have fx1 : val ((X.drop s).take s) < 18446744073709551616 ^ s := by
    have := val_lt (hA.cut s s (by omega)).limbs
    rwa [show ((X.drop s).take s).length = s by simp; omega] at this
  have fx2 := val_drop_lt' hA.limbs q s (by omega)
  have HFIT := hide (vals_fit _ _ _ s m fx0 fx1 fx2 (by omega))
  have HEM := hide (show m = s + 1 by omega)
  obtain ⟨w9, M1, hcp, B9, L9, F9, O9, S9⟩ := copy_q g 0 m R _ (some ⟨b, off, none⟩) c1 (X.take s) w8 B8 Q0.limbs (A8.front s (by omega)).limbs Q0.v0 (by rw [Q0.len]; omega) (by rw [lP0]; omega) (Lies.arg (A8.front s (by omega)))
  rw [lP0] at hcp
  rw [Nat.zero_add] at O9
  have Q1 := Q0.at0 O9 L9 S9
  have BX9 := hide ((F9.block h hsz8 (by omega)).trans BX8.out)
  have RX9 := hide ((F9.block w.heap.size (by omega) (by omega)).trans RX8.out)
  have W9 := hide (W8.out.trans (F9.below (by omega) W8.out.size))
  have hq' : q ≤ X.length := by omega
  have HS2 := plus_any g 0 m R M1 _ (X.drop q) w9 B9 L9 (second_arg (hA.below W9.out) HO2.out hq' hp2a hp2b) (fun b' off' n' c' e => by cases e; exact .inl hbg) (by rw [Q1.len]; omega) (by omega) (by omega) (by rw [Q1.v0]; exact HFIT.out.1)
  rw [Q1.v0] at HS2
  have HQ1 := hide Q1
  have hsz9 : h < w9.heap.size := by have := F9.size; omega
  have HW8 := hide hw8
  have HHH := hide hh
  rw [hw8] at hcp
  clear B8 BX8 RX8 W8 A8 Q0 Q1 S9 O9 L9 F9 HM3 HX3 HB3 hbel8 hw8 hh hsz8 lP0 fx0 fx1 fx2 hq
  have HAA := hide hA
  have HB9 := hide B9
  clear hA B9
  go_wp2_with fail
  rw [← HHH.out]
  refine HS2.mono ?_
  rintro e w10 ⟨rfl, M2, O10, L10, B10, F10, S10⟩
  rw [Nat.zero_add] at O10
  have Q2 := HQ1.out.at0 O10 L10 S10
  have BX10 := hide ((F10.block h hsz9 (by omega)).trans BX9.out)
  have RX10 := hide ((F10.block w.heap.size (by omega) (by omega)).trans RX9.out)
  have W10 := hide (W9.out.trans (F10.below (by omega) W9.out.size))
  have hsz10 : h < w10.heap.size := by have := F10.size; omega
  have sg2 := seg_length M2 0 m (by rw [Q2.len]; omega)
  clear hcp HS2 HQ1 O10 S10 F10 BX9 RX9 W9 hsz9 HB9 HW8
  obtain ⟨w11, M3, hcp, B11, L11, F11, O11, S11⟩ := copy_q g m m (R - m) M2 (some ⟨g, 0, none⟩) R (seg M2 0 m) w10 B10 L10 (limbs_seg L10 _ _) Q2.v1 (by rw [Q2.len]; omega) (by rw [sg2]; omega) (Lies.arg (B10.seg_arg L10 0 m R (by rw [Q2.len]; omega) (by omega) (by omega) (by omega)))
  rw [sg2] at hcp
  have Q3 := Q2.at1 O11 L11 (S11.trans Q2.v0)
  have BX11 := hide ((F11.block h hsz10 (by omega)).trans BX10.out)
  have RX11 := hide ((F11.block w.heap.size (by omega) (by omega)).trans RX10.out)
  have W11 := hide (W10.out.trans (F11.below (by omega) W10.out.size))
  have hsz11 : h < w11.heap.size := by have := F11.size; omega
  have HS4 := plus_any g m m (R - m) M3 _ ((X.drop s).take s) w11 B11 L11 ((HAA.out.cut s s (by omega)).below W11.out) (fun b' off' n' c' e => by cases e; exact .inl hbg) (by rw [Q3.len]; omega) (by omega) (by omega) (by rw [Q3.v1]; exact HFIT.out.2.1)
  rw [Q3.v1] at HS4
  have HQ3 := hide Q3
  have HF11 := hide F11.size
  clear Q2 sg2 B10 L10 L11 F11 O11 S11 RX10 W10 B11 Q3
  obtain ⟨hk0, _, _, _⟩ := box4 BX10.out
  obtain ⟨hj0, _, _, _⟩ := box4 BX11.out
  go_wp2_with fail
  refine HS4.mono ?_
  rintro e w12 ⟨rfl, M4, O12, L12, B12, F12, S12⟩
  have Q4' := HQ3.out.at1 O12 L12 S12
  have BX12 := hide ((F12.block h hsz11 (by omega)).trans BX11.out)
  have RX12 := hide ((F12.block w.heap.size (by omega) (by omega)).trans RX11.out)
  have W12 := hide (W11.out.trans (F12.below (by omega) W11.out.size))
  have hsz12 : h < w12.heap.size := by have := F12.size; omega
  clear hcp HS4 HQ3 O12 S12 F12 BX11 RX11 W11 hsz11 hk0 hj0 BX10 hsz10 HF11
  have HS5 := apart_any g d3 m (R - d3) M4 _ _ (seg M4 0 m) ((X.drop s).take s) w12 B12 L12 (B12.seg_arg L12 0 m R (by rw [Q4'.len]; omega) (by omega) (by omega) (by omega)) ((HAA.out.cut s s (by omega)).below W12.out) (fun b' off' n' c' e => by cases e; exact .inr (.inl (by omega))) (fun b' off' n' c' e => by cases e; exact .inl hbg) (by rw [Q4'.len]; omega) (by omega) (by omega) (by rw [show val (seg M4 0 m) = _ from Q4'.v0]; exact HFIT.out.1) HFIT.out.2.2.1
  rw [show val (seg M4 0 m) = _ from Q4'.v0] at HS5
  obtain ⟨hk0, _, hk2, _⟩ := box4 BX12.out
  have HQ4 := hide Q4'
  clear Q4' B12 L12
  go_wp2_with fail
  refine HS5.mono ?_
  rintro e w13 ⟨rfl, M5, O13, L13, B13, F13, S13⟩
  have Q5 := HQ4.out.at3 O13 L13 S13
  have BX13 := hide ((F13.block h hsz12 (by omega)).trans BX12.out)
  have RX13 := hide ((F13.block w.heap.size (by omega) (by omega)).trans RX12.out)
  have W13 := hide (W12.out.trans (F13.below (by omega) W12.out.size))
  have hsz13 : h < w13.heap.size := by have := F13.size; omega
  clear HS5 HQ4 O13 S13 F13 BX12 RX12 W12 hsz12 hk0 hk2
  generalize hβ : decide (val (X.take s) + val (X.drop q) < val ((X.drop s).take s)) = β at *
  obtain ⟨w14, hw14⟩ : ∃ w14, w14 = w13.setCell ⟨h, 3, none⟩ (.bool β) := ⟨_, rfl⟩
  have BX14 := hide (show w14.heap[h]? = some (.cells #[.slice (some ⟨g, m, none⟩) m (R - m), .slice (some ⟨g, d2, none⟩) m (R - d2), .slice (some ⟨g, d3, none⟩) m (R - d3), .bool β] 93) by rw [hw14]; exact box4_set BX13.out _)
  have RX14 := hide (show w14.heap[w.heap.size]? = some (.cells #[.slice none 0 0, .slice none 0 0, .slice none 0 0, .bool false] 93) by rw [hw14, Below.heap_setCell _ _ _ _ (by show w.heap.size ≠ h; omega)]; exact RX13.out)
  have W14 := hide (show Below w.heap.size w w14 by rw [hw14]; exact W13.out.setCell (by show w.heap.size ≤ h; omega) _)
  have B14 : Blk w14 g M5 := by rw [hw14]; exact B13.other _ _ (by show g ≠ h; omega)
  have hsz14 : h < w14.heap.size := by rw [hw14]; simpa using hsz13
  have lP0 : (X.take s).length = s := by simp; omega
  obtain ⟨w15, M6, hcp, B15, L15, F15, O15, S15⟩ := copy_q g d2 m (R - d2) M5 (some ⟨b, off, none⟩) c1 (X.take s) w14 B14 L13 (HAA.out.front s (by omega)).limbs Q5.v2 (by rw [Q5.len]; omega) (by rw [lP0]; omega) (Lies.arg ((HAA.out.front s (by omega)).below W14.out))
  rw [lP0] at hcp
  have Q6 := Q5.at2 O15 L15 S15
  have BX15 := hide ((F15.block h hsz14 (by omega)).trans BX14.out)
  have RX15 := hide ((F15.block w.heap.size (by omega) (by omega)).trans RX14.out)
  have W15 := hide (W14.out.trans (F15.below (by omega) W14.out.size))
  have hsz15 : h < w15.heap.size := by have := F15.size; omega
  have HS7 := plusTimes_any g d2 m (R - d2) M6 _ ((X.drop s).take s) 2 w15 B15 L15 ((HAA.out.cut s s (by omega)).below W15.out) (fun b' off' n' c' e => by cases e; exact .inl hbg) (by simp; omega) (by rw [Q6.len]; omega) (by omega) (by omega) (by omega) (by rw [Q6.v2]; exact HFIT.out.2.2.2.1)
  rw [Q6.v2, show ((2 : Nat) : Int) = 2 from rfl] at HS7
  have HQ6 := hide Q6
  obtain ⟨_, _, _, hk3⟩ := box4 BX13.out
  have hf13 := box4f BX13.out 3
  obtain ⟨_, hj1, _, _⟩ := box4 BX14.out
  obtain ⟨_, hi1, _, _⟩ := box4 BX15.out
  rw [hw14] at hcp hj1
  have HW14 := hide hw14
  have Hβ := hide hβ
  clear Q5 Q6 B13 L13 B14 L15 F15 O15 S15 RX13 RX14 W13 W14 B15 lP0 hw14 hβ BX14 hsz14
  go_wp2_with fail
  refine HS7.mono ?_
  rintro e w16 ⟨rfl, M7, O16, L16, B16, F16, S16⟩
  have Q7 := HQ6.out.at2 O16 L16 S16
  have BX16 := hide ((F16.block h hsz15 (by omega)).trans BX15.out)
  have RX16 := hide ((F16.block w.heap.size (by omega) (by omega)).trans RX15.out)
  have W16 := hide (W15.out.trans (F16.below (by omega) W15.out.size))
  have hsz16 : h < w16.heap.size := by have := F16.size; omega
  clear hcp HS7 HQ6 O16 S16 F16 BX15 RX15 W15 hsz15 hk3 hf13 hj1 hi1 HW14 hsz13 BX13
  have HS8 := plusTimes_any g d2 m (R - d2) M7 _ (X.drop q) 4 w16 B16 L16 (second_arg (HAA.out.below W16.out) HO2.out hq' hp2a hp2b) (fun b' off' n' c' e => by cases e; exact .inl hbg) (by simp; omega) (by rw [Q7.len]; omega) (by omega) (by omega) (by omega) (by rw [Q7.v2]; exact HFIT.out.2.2.2.2)
  rw [Q7.v2, show ((4 : Nat) : Int) = 4 from rfl] at HS8
  obtain ⟨_, hk1, _, _⟩ := box4 BX16.out
  have HQ7 := hide Q7
  clear Q7 B16 L16
  go_wp2_with fail
  refine HS8.mono ?_
  rintro e w17 ⟨rfl, M8, O17, L17, B17, F17, S17⟩
  have Q8 := HQ7.out.at2 O17 L17 S17
  have BX17 := hide ((F17.block h hsz16 (by omega)).trans BX16.out)
  have RX17 := hide ((F17.block w.heap.size (by omega) (by omega)).trans RX16.out)
  have W17 := hide (W16.out.trans (F17.below (by omega) W16.out.size))
  clear HS8 HQ7 O17 L17 S17 F17 BX16 RX16 W16 hsz16 hk1
  obtain ⟨hk0, hk1, hk2, hk3⟩ := box4 BX17.out
  obtain ⟨hr0, hr1, hr2, hr3⟩ := box4 RX17.out
  have hf := box4f RX17.out
  have HQ8 := hide Q8
  have HB17 := hide B17
  clear Q8 B17
  go_wp2
  have R18 := box4_all RX17.out (a' := .slice (some ⟨g, m, none⟩) m (R - m)) (b' := .slice (some ⟨g, d2, none⟩) m (R - d2)) (c' := .slice (some ⟨g, d3, none⟩) m (R - d3)) (d' := .bool β)
  have hne : g ≠ w.heap.size := by omega
  have B18 := (((HB17.out.other ⟨w.heap.size, 0, none⟩ (.slice (some ⟨g, m, none⟩) m (R - m)) hne).other ⟨w.heap.size, 1, none⟩ (.slice (some ⟨g, d2, none⟩) m (R - d2)) hne).other ⟨w.heap.size, 2, none⟩ (.slice (some ⟨g, d3, none⟩) m (R - d3)) hne).other ⟨w.heap.size, 3, none⟩ (.bool β) hne
  have W18 := (((W17.out.setCell (p := ⟨w.heap.size, 0, none⟩) (Nat.le_refl _) (.slice (some ⟨g, m, none⟩) m (R - m))).setCell (p := ⟨w.heap.size, 1, none⟩) (Nat.le_refl _) (.slice (some ⟨g, d2, none⟩) m (R - d2))).setCell (p := ⟨w.heap.size, 2, none⟩) (Nat.le_refl _) (.slice (some ⟨g, d3, none⟩) m (R - d3))).setCell (p := ⟨w.heap.size, 3, none⟩) (Nat.le_refl _) (.bool β)
  generalize (((w17.setCell ⟨w.heap.size, 0, none⟩ (.slice (some ⟨g, m, none⟩) m (R - m))).setCell ⟨w.heap.size, 1, none⟩ (.slice (some ⟨g, d2, none⟩) m (R - d2))).setCell ⟨w.heap.size, 2, none⟩ (.slice (some ⟨g, d3, none⟩) m (R - d3))).setCell ⟨w.heap.size, 3, none⟩ (.bool β) = w18 at *
  clear hk0 hk1 hk2 hk3 hr0 hr1 hr2 hr3 hf
  obtain ⟨hk0, hk1, hk2, hk3⟩ := box4 R18
  have HD := hide (And.intro B18 W18)
  clear R18 B18 W18
  refine bodyPost_ret (v := .agg #[.slice (some ⟨g, m, none⟩) m (R - m), .slice (some ⟨g, d2, none⟩) m (R - d2), .slice (some ⟨g, d3, none⟩) m (R - d3), .bool β]) (by simp [results, Tryd.results80, go_sem, hk0, hk1, hk2, hk3]) rfl ?_
  have hq : 2 * s = q := by omega
  rw [hq]
  obtain ⟨a1, a2, a3, a4, a5, a6, a7, a8⟩ := HQ8.out
  exact ⟨g, m, d2, d3, R, _, M8, HEM.out, by omega, by rw [Hβ.out], by omega, HD.out.1, HD.out.2, a1, a2, a3, a4, a5, by rw [a6]; omega, a7, a8⟩

end Go.Proofs.YtmloigbacfllhaaDoor
