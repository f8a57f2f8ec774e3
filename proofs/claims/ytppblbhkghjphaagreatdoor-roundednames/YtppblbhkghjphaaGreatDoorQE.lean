/- Package mul: part, told to the letter. -/
import Derived.Test.YtppblbhkghjphaaGreatDoorQD
import Derived.Test.YtppblbhkghjphaaGreatDoorQA
import Derived.Test.YtppblbhkghjphaaGreatDoorQB
import Derived.Handy
import Derived.Deep.QuietTactic
import Derived.BigQuiet
namespace Go.Proofs.YtppblbhkghjphaaGreatDoor
open Go.RowKit
open Lm

set_option maxHeartbeats 400000 in
theorem part_front (b off n cap at' m : Nat) (w : World) (_hn : n ≤ 1125899906842624) (hcc : n ≤ cap) (hcm : cap ≤ 9223372036854775807) (h : at' + m ≤ n) (hat : at' < cap) :
    Calls Tryz.prog 136 #[.slice (some ⟨b, off, none⟩) n cap, .int .i64 at', .int .i64 m] w fun e w' => e = .returned (.slice (some ⟨b, off + at', none⟩) m (cap - at')) ∧ w' = w := by
  have i2 : (0 : Int) ≤ (at' : Int) := by omega
  have k1 : ¬ cap = at' := by omega
  have m1 : min (at' : Int) (n : Int) = (at' : Int) := by omega
  obtain ⟨s, es, hs1, hs2, es2⟩ : ∃ s : Nat, (at' : Int) + (m : Int) = (s : Int) ∧ s ≤ n ∧ at' ≤ s ∧ s - at' = m := ⟨at' + m, by omega, h, by omega, by omega⟩
  have i3 : (s : Int) ≤ (n : Int) := by omega
  have i4 : (at' : Int) ≤ (s : Int) := by omega
  have m2 : min (s : Int) (n : Int) = (s : Int) := by omega
  clear h
  go_enter Tryz.func136, Tryz.ntmps136
  go_wp2
  go_ret
  exact ⟨rfl, rfl⟩

set_option maxHeartbeats 400000 in
theorem part_rest (b off n cap at' m : Nat) (hn : n ≤ 1125899906842624) (hcc : n ≤ cap) (hcm : cap ≤ 9223372036854775807) (hm : m ≤ 1125899906842624) (h1 : at' ≤ n) (h2 : n ≤ at' + m) :
    ∃ off2 cap2, (off2 = off + at' ∨ n = at') ∧ n - at' ≤ cap2 ∧ cap2 ≤ cap ∧ ∀ w, Calls Tryz.prog 136 #[.slice (some ⟨b, off, none⟩) n cap, .int .i64 at', .int .i64 m] w fun e w' => e = .returned (.slice (some ⟨b, off2, none⟩) (n - at') cap2) ∧ w' = w := by
  have i2 : (0 : Int) ≤ (at' : Int) := by omega
  have m1 : min (at' : Int) (n : Int) = (at' : Int) := by omega
  obtain ⟨s, es, hs1⟩ : ∃ s : Nat, (at' : Int) + (m : Int) = (s : Int) ∧ n ≤ s := ⟨at' + m, by omega, by omega⟩
  have m2 : min (s : Int) (n : Int) = (n : Int) := by omega
  have i4 : (at' : Int) ≤ (n : Int) := by omega
  clear h2
  by_cases k1 : cap = at'
  · have e1 : n = at' := by omega
    subst e1
    subst k1
    refine ⟨off, 0, .inr rfl, by omega, by omega, fun w => ?_⟩
    have e2 : cap - cap = 0 := by omega
    rw [e2]
    clear m1 h1 i4
    have m1 : min (cap : Int) (cap : Int) = (cap : Int) := by omega
    go_enter Tryz.func136, Tryz.ntmps136
    go_wp2
    go_ret
    exact ⟨rfl, rfl⟩
  · refine ⟨off + at', cap - at', .inl rfl, by omega, by omega, fun w => ?_⟩
    go_enter Tryz.func136, Tryz.ntmps136
    go_wp2
    go_ret
    exact ⟨rfl, rfl⟩

end Go.Proofs.YtppblbhkghjphaaGreatDoor

/- Package mul: valuesOf. -/
namespace Go.Proofs.YtppblbhkghjphaaGreatDoor
open Go.RowKit
open Lm

/-- 'part' of a whole block. -/
theorem part_of (g n at' m : Nat) (w : World) (hn : n ≤ 1125899906842624) (h : at' + m ≤ n) (h0 : 0 < m) :
    Calls Tryz.prog 136 #[.slice (some ⟨g, 0, none⟩) n n, .int .i64 at', .int .i64 m] w fun e w' => e = .returned (.slice (some ⟨g, at', none⟩) m (n - at')) ∧ w' = w := by
  have := part_front g 0 n n at' m w hn (Nat.le_refl _) (by omega) h (by omega)
  rwa [Nat.zero_add] at this

theorem part_of0 (g n m : Nat) (w : World) (hn : n ≤ 1125899906842624) (h : m ≤ n) (h0 : 0 < m) :
    Calls Tryz.prog 136 #[.slice (some ⟨g, 0, none⟩) n n, .int .i64 0, .int .i64 m] w fun e w' => e = .returned (.slice (some ⟨g, 0, none⟩) m n) ∧ w' = w :=
  part_of g n 0 m w hn (by omega) h0

/-- Four pieces of one length, and their values. -/
structure Q4 (M : List Nat) (m d2 d3 e0 e1 e2 e3 : Nat) : Prop where
  h2 : d2 = m + m
  h3 : d3 = m + m + m
  len : M.length = m + m + m + m
  limbs : Limbs M
  v0 : sv M 0 m = e0
  v1 : sv M m m = e1
  v2 : sv M d2 m = e2
  v3 : sv M d3 m = e3

theorem Q4.at0 {M M' : List Nat} {m d2 d3 e0 e1 e2 e3 e : Nat} (h : Q4 M m d2 d3 e0 e1 e2 e3) (ho : Out M M' 0 m) (hl : Limbs M') (hv : sv M' 0 m = e) : Q4 M' m d2 d3 e e1 e2 e3 := by
  obtain ⟨a, b, c, _, v0, v1, v2, v3⟩ := h
  exact ⟨a, b, by rw [ho.len, c], hl, hv, by rw [ho.sv m m (by omega), v1], by rw [ho.sv d2 m (by omega), v2], by rw [ho.sv d3 m (by omega), v3]⟩

theorem Q4.at1 {M M' : List Nat} {m d2 d3 e0 e1 e2 e3 e : Nat} (h : Q4 M m d2 d3 e0 e1 e2 e3) (ho : Out M M' m (m + m)) (hl : Limbs M') (hv : sv M' m m = e) : Q4 M' m d2 d3 e0 e e2 e3 := by
  obtain ⟨a, b, c, _, v0, v1, v2, v3⟩ := h
  exact ⟨a, b, by rw [ho.len, c], hl, by rw [ho.sv 0 m (by omega), v0], hv, by rw [ho.sv d2 m (by omega), v2], by rw [ho.sv d3 m (by omega), v3]⟩

theorem Q4.at2 {M M' : List Nat} {m d2 d3 e0 e1 e2 e3 e : Nat} (h : Q4 M m d2 d3 e0 e1 e2 e3) (ho : Out M M' d2 (d2 + m)) (hl : Limbs M') (hv : sv M' d2 m = e) : Q4 M' m d2 d3 e0 e1 e e3 := by
  obtain ⟨a, b, c, _, v0, v1, v2, v3⟩ := h
  exact ⟨a, b, by rw [ho.len, c], hl, by rw [ho.sv 0 m (by omega), v0], by rw [ho.sv m m (by omega), v1], hv, by rw [ho.sv d3 m (by omega), v3]⟩

theorem Q4.at3 {M M' : List Nat} {m d2 d3 e0 e1 e2 e3 e : Nat} (h : Q4 M m d2 d3 e0 e1 e2 e3) (ho : Out M M' d3 (d3 + m)) (hl : Limbs M') (hv : sv M' d3 m = e) : Q4 M' m d2 d3 e0 e1 e2 e := by
  obtain ⟨a, b, c, _, v0, v1, v2, v3⟩ := h
  exact ⟨a, b, by rw [ho.len, c], hl, by rw [ho.sv 0 m (by omega), v0], by rw [ho.sv m m (by omega), v1], by rw [ho.sv d2 m (by omega), v2], hv⟩

theorem sv_zeros (n o m : Nat) : sv (List.replicate n 0) o m = 0 := by
  unfold sv seg
  rw [List.drop_replicate, List.take_replicate, val_replicate]

theorem Q4.zero (m d2 d3 R : Nat) (h2 : d2 = m + m) (h3 : d3 = m + m + m) (hR : R = m + m + m + m) : Q4 (List.replicate R 0) m d2 d3 0 0 0 0 :=
  ⟨h2, h3, by simp [hR], limbs_replicate _, sv_zeros _ _ _, sv_zeros _ _ _, sv_zeros _ _ _, sv_zeros _ _ _⟩

/-- A list laid over noughts. -/
theorem lay_over (M X : List Nat) (o m : Nat) (h0 : sv M o m = 0) (hX : X.length ≤ m) (hl : o + m ≤ M.length) : sv (lay M o X) o m = val X := by
  obtain ⟨d, rfl⟩ : ∃ d, m = X.length + d := ⟨m - X.length, by omega⟩
  rw [sv_split _ _ _ _ (by omega)] at h0
  rw [sv_split _ _ _ _ (by rw [lay_length]; omega), lay_sv _ _ _ (by omega), (lay_out X M o).sv (o + X.length) d (by omega)]
  omega

theorem Arg.recap {w : World} {b off n cap : Nat} {X : List Nat} (h : Arg w (.slice (some ⟨b, off, none⟩) n cap) X) (cap' : Nat) (h1 : n ≤ cap') (h2 : cap' ≤ 9223372036854775807) : Arg w (.slice (some ⟨b, off, none⟩) n cap') X := by
  obtain ⟨ao, c, e, _, _, hl⟩ := h.form
  cases e
  exact ⟨⟨_, _, rfl, h1, h2, hl⟩, h.limbs, h.few, fun n c e => by cases e⟩

/-- The rest of a list, as 'part' tells it. -/
theorem second_arg {w : World} {b off cap q off2 cap2 : Nat} {X : List Nat} (hA : Arg w (.slice (some ⟨b, off, none⟩) X.length cap) X) (ho : off2 = off + q ∨ X.length = q) (hq : q ≤ X.length) (h1 : X.length - q ≤ cap2) (h2 : cap2 ≤ cap) : Arg w (.slice (some ⟨b, off2, none⟩) (X.length - q) cap2) (X.drop q) := by
  obtain ⟨_, _, e, _, hm, _⟩ := hA.form
  cases e
  rcases ho with rfl | rfl
  · exact (hA.drop q hq).recap cap2 h1 (by omega)
  · rw [List.drop_length, Nat.sub_self]
    exact ⟨⟨_, _, rfl, by simp, by omega, .inl rfl⟩, (by intro z hz; cases hz), by simp, fun n c e => by cases e⟩

/-- 'copy' over noughts. -/
theorem copy_q (g o n cap : Nat) (M : List Nat) (a1 : Option Addr) (c1 : Nat) (P : List Nat) (w : World) (hB : Blk w g M) (hl : Limbs M) (hLP : Limbs P) (h0 : sv M o n = 0) (ho : o + n ≤ M.length) (hP : P.length ≤ n) (hL : Lies w a1 P) :
    ∃ (w' : World) (M' : List Nat), (∀ ty, (Builtin.copy_ #[24, 24] ty #[.slice (some ⟨g, o, none⟩) n cap, .slice a1 P.length c1]).run Tryz.prog w = .ok (.int .i64 (P.length : Int)) w') ∧ Blk w' g M' ∧ Limbs M' ∧ Fr g w w' ∧ Out M M' o (o + n) ∧ sv M' o n = val P :=
  ⟨_, lay M o P, fun ty => copy_run g o n cap M a1 c1 P w ty hB ho hL hP, Blk.setCells P o hB, lay_limbs P hLP M o hl, (Fr.refl g w).setCells (P.map lv) o, (lay_out P M o).wider (Nat.le_refl _) (by omega), lay_over M P o n h0 hP ho⟩

theorem Lies.arg {w : World} {b off n cap : Nat} {X : List Nat} (h : Arg w (.slice (some ⟨b, off, none⟩) n cap) X) : Lies w (some ⟨b, off, none⟩) X := by
  obtain ⟨_, _, e, _, _, hl⟩ := h.form
  cases e
  exact hl

/-- A box of four. -/
theorem box4 {w : World} {h : Nat} {a b c d : Value} {t : TypeId} (e : w.heap[h]? = some (.cells #[a, b, c, d] t)) : w.cell? ⟨h, 0, none⟩ = some a ∧ w.cell? ⟨h, 1, none⟩ = some b ∧ w.cell? ⟨h, 2, none⟩ = some c ∧ w.cell? ⟨h, 3, none⟩ = some d :=
  ⟨by simp [World.cell?, e], by simp [World.cell?, e], by simp [World.cell?, e], by simp [World.cell?, e]⟩

theorem box4f {w : World} {h : Nat} {a b c d : Value} {t : TypeId} (e : w.heap[h]? = some (.cells #[a, b, c, d] t)) : ∀ k, w.frozen? ⟨h, k, none⟩ = false := fun k => by simp [World.frozen?, e]

theorem box4_set {w : World} {h : Nat} {a b c d : Value} {t : TypeId} (e : w.heap[h]? = some (.cells #[a, b, c, d] t)) (u : Value) : (w.setCell ⟨h, 3, none⟩ u).heap[h]? = some (.cells #[a, b, c, u] t) := by
  have hlt := lt_of_block e
  have h' : w.heap[h] = .cells #[a, b, c, d] t := by simpa [Array.getElem?_eq_getElem hlt] using e
  show (w.heap.modify h _)[h]? = _
  rw [Array.getElem?_eq_getElem (by simpa using hlt), Array.getElem_modify_self, h']
  rfl

theorem box4_all {w : World} {h : Nat} {a b c d a' b' c' d' : Value} {t : TypeId} (e : w.heap[h]? = some (.cells #[a, b, c, d] t)) :
    ((((w.setCell ⟨h, 0, none⟩ a').setCell ⟨h, 1, none⟩ b').setCell ⟨h, 2, none⟩ c').setCell ⟨h, 3, none⟩ d').heap[h]? = some (.cells #[a', b', c', d'] t) :=
  box_modify (box_modify (box_modify (box_modify e a') b') c') d'

/-- What 'valuesOf' answers: the values lie in one new block. -/
def ValsDone (w : World) (s x0 x1 x2 : Nat) (e : Ending) (w' : World) : Prop :=
  ∃ (g m d2 d3 R e0 : Nat) (M : List Nat), m = s + 1 ∧ R = m + m + m + m ∧
    e = .returned (.agg #[.slice (some ⟨g, m, none⟩) m (R - m), .slice (some ⟨g, d2, none⟩) m (R - d2), .slice (some ⟨g, d3, none⟩) m (R - d3), .bool (decide (x0 + x2 < x1))]) ∧
    w.heap.size ≤ g ∧ Blk w' g M ∧ Below w.heap.size w w' ∧ Q4 M m d2 d3 e0 (x0 + x1 + x2) (x0 + x1 * 2 + x2 * 4) (if x0 + x2 < x1 then x1 - (x0 + x2) else x0 + x2 - x1)

/-- Room for the values. -/
theorem vals_fit (x0 x1 x2 s m : Nat) (h0 : x0 < 18446744073709551616 ^ s) (h1 : x1 < 18446744073709551616 ^ s) (h2 : x2 < 18446744073709551616 ^ s) (hm : m = s + 1) :
    x0 + x2 < 18446744073709551616 ^ m ∧ x0 + x2 + x1 < 18446744073709551616 ^ m ∧ x1 < 18446744073709551616 ^ m ∧ x0 + x1 * 2 < 18446744073709551616 ^ m ∧ x0 + x1 * 2 + x2 * 4 < 18446744073709551616 ^ m := by
  subst hm
  rw [Nat.pow_succ]
  generalize (18446744073709551616 : Nat) ^ s = P at *
  omega

set_option maxRecDepth 20000 in
set_option maxHeartbeats 1000000 in
theorem valuesOf_any (b off c1 s : Nat) (X : List Nat) (w : World) (hA : Arg w (.slice (some ⟨b, off, none⟩) X.length c1) X) (hs0 : 0 < s) (hs1 : 2 * s ≤ X.length) (hs2 : X.length ≤ 3 * s) (hlX : X.length ≤ 4398046511103) :
    Calls Tryz.prog 128 #[.slice (some ⟨b, off, none⟩) X.length c1, .int .i64 s] w (ValsDone w s (val (X.take s)) (val ((X.drop s).take s)) (val (X.drop (2 * s)))) := by
  obtain ⟨_, _, e0, hcc1, hcm1, _⟩ := hA.form
  cases e0
  have hX := hA.few
  have hbw := hA.block (by omega)
  obtain ⟨i0, hi, hz0, hz1, hz2⟩ := info_parts Tryz.infoU
  obtain ⟨m, em, hm1, hm2⟩ : ∃ m : Nat, (s : Int) + 1 = (m : Int) ∧ m ≤ s + 1 ∧ s + 1 ≤ m := ⟨s + 1, by omega, by omega, by omega⟩
  obtain ⟨R, eR, hR1, hR2⟩ : ∃ R : Nat, (4 : Int) * (m : Int) = (R : Int) ∧ R ≤ 4 * m ∧ 4 * m ≤ R := ⟨4 * m, by omega, by omega, by omega⟩
  obtain ⟨q, eq, hq1, hq2⟩ : ∃ q : Nat, (2 : Int) * (s : Int) = (q : Int) ∧ q ≤ 2 * s ∧ 2 * s ≤ q := ⟨2 * s, by omega, by omega, by omega⟩
  obtain ⟨d2, ed2, hd2a, hd2b⟩ : ∃ d : Nat, (2 : Int) * (m : Int) = (d : Int) ∧ d ≤ 2 * m ∧ 2 * m ≤ d := ⟨2 * m, by omega, by omega, by omega⟩
  obtain ⟨d3, ed3, hd3a, hd3b⟩ : ∃ d : Nat, (3 : Int) * (m : Int) = (d : Int) ∧ d ≤ 3 * m ∧ 3 * m ≤ d := ⟨3 * m, by omega, by omega, by omega⟩
  have wq : IntKind.i64.wrap (q : Int) = (q : Int) := by rw [IntKind.wrap_i64]; omega
  have ks0 : (0 : Int) ≤ (s : Int) := by omega
  have ks1 : (s : Int) ≤ (X.length : Int) := by omega
  have ks2 : (s : Int) ≤ (c1 : Int) := by omega
  have HP1 := fun w => part_front b off X.length c1 s s w hX hcc1 hcm1 (by omega) (by omega)
  obtain ⟨off2, cap2, ho2, hp2a, hp2b, HP2⟩ := part_rest b off X.length c1 q s hX hcc1 hcm1 (by omega) (by omega) (by omega)
  have HO2 := hide ho2
  clear ho2
  go_enter Tryz.func128, Tryz.ntmps128
  go_wp2
  go_quiet (first | (go_at_call_of 136 q; exact Calls.quiet_of_same (HP2 _)) | (go_at_call 136; exact Calls.quiet_of_same (HP1 _)))
  clear HP1 HP2
  obtain ⟨w1, hw1⟩ : ∃ w1, w1 = (w.alloc (.cells #[.slice none 0 0, .slice none 0 0, .slice none 0 0, .bool false] 137)).drewN nq := ⟨_, rfl⟩
  have hbel1 : Below w.heap.size w w1 := by rw [hw1]; exact below_drewN ((Below.refl _ _).alloc (Nat.le_refl _) _) _
  have hs1 : w1.heap.size = w.heap.size + 1 := by rw [hw1]; exact World.size_alloc _ _
  have hb1 : w1.heap[w.heap.size]? = some (.cells #[.slice none 0 0, .slice none 0 0, .slice none 0 0, .bool false] 137) := by rw [hw1]; exact heap_alloc_new ..
  rw [← hw1]
  have HX1 := hide hb1
  have HB1 := hide hbel1
  clear hw1 hb1 hbel1
  go_wp2_with (at_make; refine wpList_make_full _ rfl _ _ 24 rfl w1.heap.size 32 i0 (.int .u64 0) 1 Tryz.underlying24 hi hz0 hz1 .i64 .i64 _ _ R rfl rfl (by omega) (by omega) (by rw [hz2]; omega) (by unfold maxLen; omega) (Nat.le_refl _) ?_; intro w3 hown hgrow)
  have hm3 : Blk w3 (w.heap.size + 1) (List.replicate R 0) := by rw [← hs1]; exact Blk.made hown
  have hbel3 : Below w1.heap.size w1 w3 := (Below.refl _ _).grown hgrow (Nat.le_refl _) (fun k hk => by cases hk)
  have hX3 : w3.heap[w.heap.size]? = some (.cells #[.slice none 0 0, .slice none 0 0, .slice none 0 0, .bool false] 137) := by rw [hbel3.block w.heap.size (by omega)]; exact HX1.out
  have HB3 := hide (HB1.out.trans (hbel3.mono HB1.out.size))
  obtain ⟨g, hg⟩ : ∃ g, g = w.heap.size + 1 := ⟨_, rfl⟩
  rw [← hg] at hm3 ⊢
  have hgw : w.heap.size < g := by omega
  have HX3 := hide hX3
  have HM3 := hide hm3
  have HG := hide hg
  clear hown hgrow hi hz0 hz1 hz2 hbel3 HX1 HB1 hs1 hX3 hm3 hg
  refine (part_of0 g R m w3 (by omega) (by omega) (by omega)).mono ?_
  rintro e w4 ⟨rfl, hw⟩; subst hw
  go_wp2_with fail
  refine (part_of g R m m w4 (by omega) (by omega) (by omega)).mono ?_
  rintro e w5 ⟨rfl, hw⟩; subst hw
  go_wp2_with fail
  refine (part_of g R d2 m w5 (by omega) (by omega) (by omega)).mono ?_
  rintro e w6 ⟨rfl, hw⟩; subst hw
  go_wp2_with fail
  refine (part_of g R d3 m w6 (by omega) (by omega) (by omega)).mono ?_
  rintro e w7 ⟨rfl, hw⟩; subst hw
  obtain ⟨w8, hw8⟩ : ∃ w8, w8 = w7.alloc (.cells #[.slice (some ⟨g, m, none⟩) m (R - m), .slice (some ⟨g, d2, none⟩) m (R - d2), .slice (some ⟨g, d3, none⟩) m (R - d3), .bool false] 137) := ⟨_, rfl⟩
  obtain ⟨h, hh⟩ : ∃ h, h = w7.heap.size := ⟨_, rfl⟩
  have hbel8 : Below w7.heap.size w7 w8 := by rw [hw8]; exact (Below.refl _ _).alloc (Nat.le_refl _) _
  have hgh : g < h := by rw [hh]; exact HM3.out.lt
  have BX8 := hide (show w8.heap[h]? = some (.cells #[.slice (some ⟨g, m, none⟩) m (R - m), .slice (some ⟨g, d2, none⟩) m (R - d2), .slice (some ⟨g, d3, none⟩) m (R - d3), .bool false] 137) by rw [hw8, hh]; exact heap_alloc_new ..)
  have RX8 := hide (show w8.heap[w.heap.size]? = some (.cells #[.slice none 0 0, .slice none 0 0, .slice none 0 0, .bool false] 137) by rw [hbel8.block w.heap.size (by have := HM3.out.lt; omega)]; exact HX3.out)
  have B8 := HM3.out.below' hbel8
  have W8 := hide (HB3.out.trans (hbel8.mono HB3.out.size))
  have hbg : b ≠ g := by omega
  have hsz8 : h < w8.heap.size := by rw [hw8, hh, World.size_alloc]; omega
  have Q0 := Q4.zero m d2 d3 R (by omega) (by omega) (by omega)
  have A8 := hA.below W8.out
  have hq : q = 2 * s := by omega
  rw [← hq]
  have lP0 : (X.take s).length = s := by simp; omega
  have fx0 := val_take_lt' hA.limbs s (by omega)
  have fx1 : val ((X.drop s).take s) < 18446744073709551616 ^ s := by
    have := val_lt (hA.cut s s (by omega)).limbs
    rwa [show ((X.drop s).take s).length = s by simp; omega] at this
  have fx2 := val_drop_lt' hA.limbs q s (by omega)
  have HFIT := hide (vals_fit _ _ _ s m fx0 fx1 fx2 (by omega))
  have HEM := hide (show m = s + 1 by omega)
  obtain ⟨w9, M1, hcp, B9, L9, F9, O9, S9⟩ := copy_q g 0 m R _ (some ⟨b, off, none⟩) c1 (X.take s) w8 B8 Q0.limbs (A8.front s (by omega)).limbs Q0.v0 (by rw [Q0.len]; omega) (by rw [lP0]; omega) (Lies.arg (A8.front s (by omega)))
  rw [lP0] at hcp
  rw [Nat.zero_add] at O9
  have Q1 := Q0.at0 O9 L9 S9
  have BX9 := hide ((F9.block h hsz8 (by omega)).trans BX8.out)
  have RX9 := hide ((F9.block w.heap.size (by omega) (by omega)).trans RX8.out)
  have W9 := hide (W8.out.trans (F9.below (by omega) W8.out.size))
  have hq' : q ≤ X.length := by omega
  have HS2 := plus_any g 0 m R M1 _ (X.drop q) w9 B9 L9 (second_arg (hA.below W9.out) HO2.out hq' hp2a hp2b) (fun b' off' n' c' e => by cases e; exact .inl hbg) (by rw [Q1.len]; omega) (by omega) (by omega) (by rw [Q1.v0]; exact HFIT.out.1)
  rw [Q1.v0] at HS2
  have HQ1 := hide Q1
  have hsz9 : h < w9.heap.size := by have := F9.size; omega
  have HW8 := hide hw8
  have HHH := hide hh
  rw [hw8] at hcp
  clear B8 BX8 RX8 W8 A8 Q0 Q1 S9 O9 L9 F9 HM3 HX3 HB3 hbel8 hw8 hh hsz8 lP0 fx0 fx1 fx2 hq
  have HAA := hide hA
  have HB9 := hide B9
  clear hA B9
  go_wp2_with fail
  rw [← HHH.out]
  refine HS2.mono ?_
  rintro e w10 ⟨rfl, M2, O10, L10, B10, F10, S10⟩
  rw [Nat.zero_add] at O10
  have Q2 := HQ1.out.at0 O10 L10 S10
  have BX10 := hide ((F10.block h hsz9 (by omega)).trans BX9.out)
  have RX10 := hide ((F10.block w.heap.size (by omega) (by omega)).trans RX9.out)
  have W10 := hide (W9.out.trans (F10.below (by omega) W9.out.size))
  have hsz10 : h < w10.heap.size := by have := F10.size; omega
  have sg2 := seg_length M2 0 m (by rw [Q2.len]; omega)
  clear hcp HS2 HQ1 O10 S10 F10 BX9 RX9 W9 hsz9 HB9 HW8
  obtain ⟨w11, M3, hcp, B11, L11, F11, O11, S11⟩ := copy_q g m m (R - m) M2 (some ⟨g, 0, none⟩) R (seg M2 0 m) w10 B10 L10 (limbs_seg L10 _ _) Q2.v1 (by rw [Q2.len]; omega) (by rw [sg2]; omega) (Lies.arg (B10.seg_arg L10 0 m R (by rw [Q2.len]; omega) (by omega) (by omega) (by omega)))
  rw [sg2] at hcp
  have Q3 := Q2.at1 O11 L11 (S11.trans Q2.v0)
  have BX11 := hide ((F11.block h hsz10 (by omega)).trans BX10.out)
  have RX11 := hide ((F11.block w.heap.size (by omega) (by omega)).trans RX10.out)
  have W11 := hide (W10.out.trans (F11.below (by omega) W10.out.size))
  have hsz11 : h < w11.heap.size := by have := F11.size; omega
  have HS4 := plus_any g m m (R - m) M3 _ ((X.drop s).take s) w11 B11 L11 ((HAA.out.cut s s (by omega)).below W11.out) (fun b' off' n' c' e => by cases e; exact .inl hbg) (by rw [Q3.len]; omega) (by omega) (by omega) (by rw [Q3.v1]; exact HFIT.out.2.1)
  rw [Q3.v1] at HS4
  have HQ3 := hide Q3
  have HF11 := hide F11.size
  clear Q2 sg2 B10 L10 L11 F11 O11 S11 RX10 W10 B11 Q3
  obtain ⟨hk0, _, _, _⟩ := box4 BX10.out
  obtain ⟨hj0, _, _, _⟩ := box4 BX11.out
  go_wp2_with fail
  refine HS4.mono ?_
  rintro e w12 ⟨rfl, M4, O12, L12, B12, F12, S12⟩
  have Q4' := HQ3.out.at1 O12 L12 S12
  have BX12 := hide ((F12.block h hsz11 (by omega)).trans BX11.out)
  have RX12 := hide ((F12.block w.heap.size (by omega) (by omega)).trans RX11.out)
  have W12 := hide (W11.out.trans (F12.below (by omega) W11.out.size))
  have hsz12 : h < w12.heap.size := by have := F12.size; omega
  clear hcp HS4 HQ3 O12 S12 F12 BX11 RX11 W11 hsz11 hk0 hj0 BX10 hsz10 HF11
  have HS5 := apart_any g d3 m (R - d3) M4 _ _ (seg M4 0 m) ((X.drop s).take s) w12 B12 L12 (B12.seg_arg L12 0 m R (by rw [Q4'.len]; omega) (by omega) (by omega) (by omega)) ((HAA.out.cut s s (by omega)).below W12.out) (fun b' off' n' c' e => by cases e; exact .inr (.inl (by omega))) (fun b' off' n' c' e => by cases e; exact .inl hbg) (by rw [Q4'.len]; omega) (by omega) (by omega) (by rw [show val (seg M4 0 m) = _ from Q4'.v0]; exact HFIT.out.1) HFIT.out.2.2.1
  rw [show val (seg M4 0 m) = _ from Q4'.v0] at HS5
  obtain ⟨hk0, _, hk2, _⟩ := box4 BX12.out
  have HQ4 := hide Q4'
  clear Q4' B12 L12
  go_wp2_with fail
  refine HS5.mono ?_
  rintro e w13 ⟨rfl, M5, O13, L13, B13, F13, S13⟩
  have Q5 := HQ4.out.at3 O13 L13 S13
  have BX13 := hide ((F13.block h hsz12 (by omega)).trans BX12.out)
  have RX13 := hide ((F13.block w.heap.size (by omega) (by omega)).trans RX12.out)
  have W13 := hide (W12.out.trans (F13.below (by omega) W12.out.size))
  have hsz13 : h < w13.heap.size := by have := F13.size; omega
  clear HS5 HQ4 O13 S13 F13 BX12 RX12 W12 hsz12 hk0 hk2
  generalize hβ : decide (val (X.take s) + val (X.drop q) < val ((X.drop s).take s)) = β at *
  obtain ⟨w14, hw14⟩ : ∃ w14, w14 = w13.setCell ⟨h, 3, none⟩ (.bool β) := ⟨_, rfl⟩
  have BX14 := hide (show w14.heap[h]? = some (.cells #[.slice (some ⟨g, m, none⟩) m (R - m), .slice (some ⟨g, d2, none⟩) m (R - d2), .slice (some ⟨g, d3, none⟩) m (R - d3), .bool β] 137) by rw [hw14]; exact box4_set BX13.out _)
  have RX14 := hide (show w14.heap[w.heap.size]? = some (.cells #[.slice none 0 0, .slice none 0 0, .slice none 0 0, .bool false] 137) by rw [hw14, Below.heap_setCell _ _ _ _ (by show w.heap.size ≠ h; omega)]; exact RX13.out)
  have W14 := hide (show Below w.heap.size w w14 by rw [hw14]; exact W13.out.setCell (by show w.heap.size ≤ h; omega) _)
  have B14 : Blk w14 g M5 := by rw [hw14]; exact B13.other _ _ (by show g ≠ h; omega)
  have hsz14 : h < w14.heap.size := by rw [hw14]; simpa using hsz13
  have lP0 : (X.take s).length = s := by simp; omega
  obtain ⟨w15, M6, hcp, B15, L15, F15, O15, S15⟩ := copy_q g d2 m (R - d2) M5 (some ⟨b, off, none⟩) c1 (X.take s) w14 B14 L13 (HAA.out.front s (by omega)).limbs Q5.v2 (by rw [Q5.len]; omega) (by rw [lP0]; omega) (Lies.arg ((HAA.out.front s (by omega)).below W14.out))
  rw [lP0] at hcp
  have Q6 := Q5.at2 O15 L15 S15
  have BX15 := hide ((F15.block h hsz14 (by omega)).trans BX14.out)
  have RX15 := hide ((F15.block w.heap.size (by omega) (by omega)).trans RX14.out)
  have W15 := hide (W14.out.trans (F15.below (by omega) W14.out.size))
  have hsz15 : h < w15.heap.size := by have := F15.size; omega
  have HS7 := plusTimes_any g d2 m (R - d2) M6 _ ((X.drop s).take s) 2 w15 B15 L15 ((HAA.out.cut s s (by omega)).below W15.out) (fun b' off' n' c' e => by cases e; exact .inl hbg) (by simp; omega) (by rw [Q6.len]; omega) (by omega) (by omega) (by omega) (by rw [Q6.v2]; exact HFIT.out.2.2.2.1)
  rw [Q6.v2, show ((2 : Nat) : Int) = 2 from rfl] at HS7
  have HQ6 := hide Q6
  obtain ⟨_, _, _, hk3⟩ := box4 BX13.out
  have hf13 := box4f BX13.out 3
  obtain ⟨_, hj1, _, _⟩ := box4 BX14.out
  obtain ⟨_, hi1, _, _⟩ := box4 BX15.out
  rw [hw14] at hcp hj1
  have HW14 := hide hw14
  have Hβ := hide hβ
  clear Q5 Q6 B13 L13 B14 L15 F15 O15 S15 RX13 RX14 W13 W14 B15 lP0 hw14 hβ BX14 hsz14
  go_wp2_with fail
  refine HS7.mono ?_
  rintro e w16 ⟨rfl, M7, O16, L16, B16, F16, S16⟩
  have Q7 := HQ6.out.at2 O16 L16 S16
  have BX16 := hide ((F16.block h hsz15 (by omega)).trans BX15.out)
  have RX16 := hide ((F16.block w.heap.size (by omega) (by omega)).trans RX15.out)
  have W16 := hide (W15.out.trans (F16.below (by omega) W15.out.size))
  have hsz16 : h < w16.heap.size := by have := F16.size; omega
  clear hcp HS7 HQ6 O16 S16 F16 BX15 RX15 W15 hsz15 hk3 hf13 hj1 hi1 HW14 hsz13 BX13
  have HS8 := plusTimes_any g d2 m (R - d2) M7 _ (X.drop q) 4 w16 B16 L16 (second_arg (HAA.out.below W16.out) HO2.out hq' hp2a hp2b) (fun b' off' n' c' e => by cases e; exact .inl hbg) (by simp; omega) (by rw [Q7.len]; omega) (by omega) (by omega) (by omega) (by rw [Q7.v2]; exact HFIT.out.2.2.2.2)
  rw [Q7.v2, show ((4 : Nat) : Int) = 4 from rfl] at HS8
  obtain ⟨_, hk1, _, _⟩ := box4 BX16.out
  have HQ7 := hide Q7
  clear Q7 B16 L16
  go_wp2_with fail
  refine HS8.mono ?_
  rintro e w17 ⟨rfl, M8, O17, L17, B17, F17, S17⟩
  have Q8 := HQ7.out.at2 O17 L17 S17
  have BX17 := hide ((F17.block h hsz16 (by omega)).trans BX16.out)
  have RX17 := hide ((F17.block w.heap.size (by omega) (by omega)).trans RX16.out)
  have W17 := hide (W16.out.trans (F17.below (by omega) W16.out.size))
  clear HS8 HQ7 O17 L17 S17 F17 BX16 RX16 W16 hsz16 hk1
  obtain ⟨hk0, hk1, hk2, hk3⟩ := box4 BX17.out
  obtain ⟨hr0, hr1, hr2, hr3⟩ := box4 RX17.out
  have hf := box4f RX17.out
  have HQ8 := hide Q8
  have HB17 := hide B17
  clear Q8 B17
  go_wp2
  have R18 := box4_all RX17.out (a' := .slice (some ⟨g, m, none⟩) m (R - m)) (b' := .slice (some ⟨g, d2, none⟩) m (R - d2)) (c' := .slice (some ⟨g, d3, none⟩) m (R - d3)) (d' := .bool β)
  have hne : g ≠ w.heap.size := by omega
  have B18 := (((HB17.out.other ⟨w.heap.size, 0, none⟩ (.slice (some ⟨g, m, none⟩) m (R - m)) hne).other ⟨w.heap.size, 1, none⟩ (.slice (some ⟨g, d2, none⟩) m (R - d2)) hne).other ⟨w.heap.size, 2, none⟩ (.slice (some ⟨g, d3, none⟩) m (R - d3)) hne).other ⟨w.heap.size, 3, none⟩ (.bool β) hne
  have W18 := (((W17.out.setCell (p := ⟨w.heap.size, 0, none⟩) (Nat.le_refl _) (.slice (some ⟨g, m, none⟩) m (R - m))).setCell (p := ⟨w.heap.size, 1, none⟩) (Nat.le_refl _) (.slice (some ⟨g, d2, none⟩) m (R - d2))).setCell (p := ⟨w.heap.size, 2, none⟩) (Nat.le_refl _) (.slice (some ⟨g, d3, none⟩) m (R - d3))).setCell (p := ⟨w.heap.size, 3, none⟩) (Nat.le_refl _) (.bool β)
  generalize (((w17.setCell ⟨w.heap.size, 0, none⟩ (.slice (some ⟨g, m, none⟩) m (R - m))).setCell ⟨w.heap.size, 1, none⟩ (.slice (some ⟨g, d2, none⟩) m (R - d2))).setCell ⟨w.heap.size, 2, none⟩ (.slice (some ⟨g, d3, none⟩) m (R - d3))).setCell ⟨w.heap.size, 3, none⟩ (.bool β) = w18 at *
  clear hk0 hk1 hk2 hk3 hr0 hr1 hr2 hr3 hf
  obtain ⟨hk0, hk1, hk2, hk3⟩ := box4 R18
  have HD := hide (And.intro B18 W18)
  clear R18 B18 W18
  refine bodyPost_ret (v := .agg #[.slice (some ⟨g, m, none⟩) m (R - m), .slice (some ⟨g, d2, none⟩) m (R - d2), .slice (some ⟨g, d3, none⟩) m (R - d3), .bool β]) (by simp [results, Tryz.results128, go_sem, hk0, hk1, hk2, hk3]) rfl ?_
  have hq : 2 * s = q := by omega
  rw [hq]
  obtain ⟨a1, a2, a3, a4, a5, a6, a7, a8⟩ := HQ8.out
  exact ⟨g, m, d2, d3, R, _, M8, HEM.out, by omega, by rw [Hβ.out], by omega, HD.out.1, HD.out.2, a1, a2, a3, a4, a5, by rw [a6]; omega, a7, a8⟩

end Go.Proofs.YtppblbhkghjphaaGreatDoor

/- Package mul: three blocks of one length that are worked on in place. -/
namespace Go.Proofs.YtppblbhkghjphaaGreatDoor
open Go.RowKit
open Lm

/-- A block of N limbs that says v. -/
def Hold (w : World) (g N v : Nat) : Prop := ∃ A : List Nat, Blk w g A ∧ Limbs A ∧ A.length = N ∧ val A = v

theorem Hold.fr {w w' : World} {g N v bz : Nat} (h : Hold w g N v) (hf : Fr bz w w') (hne : g ≠ bz) : Hold w' g N v := by
  obtain ⟨A, h1, h2⟩ := h
  exact ⟨A, hf.blk h1 hne, h2⟩

theorem Hold.arg {w : World} {g N v : Nat} (h : Hold w g N v) (hN : N ≤ 1125899906842624) : ∃ A : List Nat, Arg w (.slice (some ⟨g, 0, none⟩) N N) A ∧ val A = v := by
  obtain ⟨A, h1, h2, h3, h4⟩ := h
  refine ⟨A, ?_, h4⟩
  have := h1.take_arg h2 N N (by omega) (Nat.le_refl _) (by omega)
  rwa [List.take_of_length_le (by omega)] at this

theorem aside_of {g g' o n c : Nat} (h : g ≠ g') : ∀ lo hi, Off (.slice (some ⟨g, o, none⟩) n c) g' lo hi := fun lo hi b off n c e => by
  cases e
  exact .inl h

/-- The product's block, and three blocks besides: o, e, t. -/
structure St3 (w0 ws w : World) (bz o e t N : Nat) (Z : List Nat) (vo ve vt : Nat) : Prop where
  fr : Fr bz w0 w
  blk : Blk w bz Z
  lz : Limbs Z
  lt : bz < w0.heap.size
  no : w0.heap.size ≤ o
  ne : w0.heap.size ≤ e
  nt : w0.heap.size ≤ t
  oe : o ≠ e
  ot : o ≠ t
  et : e ≠ t
  ho : Hold w o N vo
  he : Hold w e N ve
  ht : Hold w t N vt
  size : ws.heap.size ≤ w.heap.size
  keep : ∀ k, k < ws.heap.size → k ≠ bz → k ≠ o → k ≠ e → k ≠ t → w.heap[k]? = ws.heap[k]?

theorem St3.oe' {w0 ws w : World} {bz o e t N : Nat} {Z : List Nat} {vo ve vt : Nat} (h : St3 w0 ws w bz o e t N Z vo ve vt) : St3 w0 ws w bz e o t N Z ve vo vt :=
  ⟨h.fr, h.blk, h.lz, h.lt, h.ne, h.no, h.nt, Ne.symm h.oe, h.et, h.ot, h.he, h.ho, h.ht, h.size, fun k a b c d e => h.keep k a b d c e⟩

theorem St3.et' {w0 ws w : World} {bz o e t N : Nat} {Z : List Nat} {vo ve vt : Nat} (h : St3 w0 ws w bz o e t N Z vo ve vt) : St3 w0 ws w bz o t e N Z vo vt ve :=
  ⟨h.fr, h.blk, h.lz, h.lt, h.no, h.nt, h.ne, h.ot, h.oe, Ne.symm h.et, h.ho, h.ht, h.he, h.size, fun k a b c d e => h.keep k a b c e d⟩

/-- The second block has turned. -/
theorem St3.up {w0 ws w : World} {bz o e t N : Nat} {Z : List Nat} {vo ve vt : Nat} (h : St3 w0 ws w bz o e t N Z vo ve vt) {E : List Nat} {p : Nat} {en : Ending} {w' : World} (hl : E.length = N) (hd : IntoDone e 0 N E w p en w') :
    en = .returned (.tuple #[]) ∧ St3 w0 ws w' bz o e t N Z vo p vt := by
  obtain ⟨rfl, E', q1, q2, q3, q4, q5⟩ := hd
  have hlt := h.lt
  have hne := h.ne
  have hE : E'.length = N := by rw [q1.len, hl]
  refine ⟨rfl, h.fr.other q4 h.ne, q4.blk h.blk (by omega), h.lz, h.lt, h.no, h.ne, h.nt, h.oe, h.ot, h.et, h.ho.fr q4 h.oe, ⟨E', q3, q2, hE, ?_⟩, h.ht.fr q4 (Ne.symm h.et), Nat.le_trans h.size q4.size, fun k a b c d f => (q4.block k (Nat.lt_of_lt_of_le a h.size) d).trans (h.keep k a b c d f)⟩
  rw [← q5, ← hE, sv_all]

/-- The product's block has turned. -/
theorem St3.upz {w0 ws w : World} {bz o e t N : Nat} {Z : List Nat} {vo ve vt : Nat} (h : St3 w0 ws w bz o e t N Z vo ve vt) {zo n p : Nat} {en : Ending} {w' : World} (hd : IntoDone bz zo n Z w p en w') :
    en = .returned (.tuple #[]) ∧ ∃ Z', St3 w0 ws w' bz o e t N Z' vo ve vt ∧ Out Z Z' zo (zo + n) ∧ sv Z' zo n = p := by
  obtain ⟨rfl, Z', q1, q2, q3, q4, q5⟩ := hd
  have hlt := h.lt
  have h1 := h.no
  have h2 := h.ne
  have h3 := h.nt
  exact ⟨rfl, Z', ⟨h.fr.trans q4, q3, q2, h.lt, h.no, h.ne, h.nt, h.oe, h.ot, h.et, h.ho.fr q4 (by omega), h.he.fr q4 (by omega), h.ht.fr q4 (by omega), Nat.le_trans h.size q4.size, fun k a b c d f => (q4.block k (Nat.lt_of_lt_of_le a h.size) b).trans (h.keep k a b c d f)⟩, q1, q5⟩

theorem sv_full {E : List Nat} {N : Nat} (h : E.length = N) : sv E 0 N = val E := by rw [← h, sv_all]

theorem St3.plus {w0 ws w : World} {bz o e t N : Nat} {Z : List Nat} {vo ve vt : Nat} (h : St3 w0 ws w bz o e t N Z vo ve vt) (hN : N ≤ 1125899906842624) (p : Nat) {va : Value} {A : List Nat} (hA : Arg w va A) (hoff : Off va e 0 (0 + N)) (hp : p = ve + val A) (hfit : p < 18446744073709551616 ^ N) :
    Calls Tryz.prog 130 #[.slice (some ⟨e, 0, none⟩) N N, va] w fun en w' => en = .returned (.tuple #[]) ∧ St3 w0 ws w' bz o e t N Z vo p vt := by
  obtain ⟨E, h1, h2, h3, h4⟩ := h.he
  have := plus_any e 0 N N E va A w h1 h2 hA hoff (by omega) (Nat.le_refl _) (by omega) (by rw [sv_full h3, h4]; omega)
  rw [sv_full h3, h4, ← hp] at this
  exact this.mono fun en w' hd => h.up h3 hd

theorem St3.minus {w0 ws w : World} {bz o e t N : Nat} {Z : List Nat} {vo ve vt : Nat} (h : St3 w0 ws w bz o e t N Z vo ve vt) (hN : N ≤ 1125899906842624) (p : Nat) {va : Value} {A : List Nat} (hA : Arg w va A) (hoff : Off va e 0 (0 + N)) (hp : ve = p + val A) :
    Calls Tryz.prog 132 #[.slice (some ⟨e, 0, none⟩) N N, va] w fun en w' => en = .returned (.tuple #[]) ∧ St3 w0 ws w' bz o e t N Z vo p vt := by
  obtain ⟨E, h1, h2, h3, h4⟩ := h.he
  have := minus_any e 0 N N E va A w h1 h2 hA hoff (by omega) (Nat.le_refl _) (by omega) (by rw [sv_full h3, h4]; omega)
  rw [sv_full h3, h4, show ve - val A = p by omega] at this
  exact this.mono fun en w' hd => h.up h3 hd

theorem St3.minusTimes {w0 ws w : World} {bz o e t N : Nat} {Z : List Nat} {vo ve vt : Nat} (h : St3 w0 ws w bz o e t N Z vo ve vt) (hN : N ≤ 1125899906842624) (p k : Nat) {va : Value} {A : List Nat} (hA : Arg w va A) (hoff : Off va e 0 (0 + N)) (hp : ve = p + val A * k) (hk0 : 0 < k) (hk : k < 18446744073709551616) :
    Calls Tryz.prog 133 #[.slice (some ⟨e, 0, none⟩) N N, va, .int .u64 k] w fun en w' => en = .returned (.tuple #[]) ∧ St3 w0 ws w' bz o e t N Z vo p vt := by
  obtain ⟨E, h1, h2, h3, h4⟩ := h.he
  have := minusTimes_any e 0 N N E va A k w h1 h2 hA hoff (by omega) (Nat.le_refl _) (by omega) hk0 hk (by rw [sv_full h3, h4]; omega)
  rw [sv_full h3, h4, show ve - val A * k = p by omega] at this
  exact this.mono fun en w' hd => h.up h3 hd

theorem St3.half {w0 ws w : World} {bz o e t N : Nat} {Z : List Nat} {vo ve vt : Nat} (h : St3 w0 ws w bz o e t N Z vo ve vt) (hN : N ≤ 1125899906842624) (p : Nat) (hp : ve = 2 * p) :
    Calls Tryz.prog 131 #[.slice (some ⟨e, 0, none⟩) N N] w fun en w' => en = .returned (.tuple #[]) ∧ St3 w0 ws w' bz o e t N Z vo p vt := by
  obtain ⟨E, h1, h2, h3, h4⟩ := h.he
  have := halfOf_any e 0 N N E w h1 h2 (by omega) (Nat.le_refl _) (by omega)
  rw [sv_full h3, h4, show ve / 2 = p by omega] at this
  exact this.mono fun en w' hd => h.up h3 hd

theorem St3.third {w0 ws w : World} {bz o e t N : Nat} {Z : List Nat} {vo ve vt : Nat} (h : St3 w0 ws w bz o e t N Z vo ve vt) (hN : N ≤ 1125899906842624) (p : Nat) (hp : ve = 3 * p) :
    Calls Tryz.prog 134 #[.slice (some ⟨e, 0, none⟩) N N] w fun en w' => en = .returned (.tuple #[]) ∧ St3 w0 ws w' bz o e t N Z vo p vt := by
  obtain ⟨E, h1, h2, h3, h4⟩ := h.he
  have := thirdOf_any e 0 N N E w h1 h2 (by omega) (Nat.le_refl _) (by omega) (by rw [sv_full h3, h4]; omega)
  rw [sv_full h3, h4, show ve / 3 = p by omega] at this
  exact this.mono fun en w' hd => h.up h3 hd

/-- A piece more, at a place: the whole goes up by so much. -/
theorem St3.add {w0 ws w : World} {bz o e t N : Nat} {Z : List Nat} {vo ve vt : Nat} (h : St3 w0 ws w bz o e t N Z vo ve vt) (zo n k cap : Nat) {va : Value} {A : List Nat} (hA : Arg w va A) (hoff : Off va bz (zo + k) (zo + k + (n - k))) (hk : k ≤ n) (hz : zo + n ≤ Z.length) (hc1 : n - k ≤ cap) (hc2 : cap ≤ 9223372036854775807)
    (tot : Nat) (hle : sv Z zo n + 18446744073709551616 ^ k * val A ≤ tot) (htot : tot < 18446744073709551616 ^ n) :
    Calls Tryz.prog 130 #[.slice (some ⟨bz, zo + k, none⟩) (n - k) cap, va] w fun en w' => en = .returned (.tuple #[]) ∧ ∃ Z', St3 w0 ws w' bz o e t N Z' vo ve vt ∧ Out Z Z' zo (zo + n) ∧ sv Z' zo n = sv Z zo n + 18446744073709551616 ^ k * val A := by
  have hfit := pieces_fit Z zo k n (val A) tot hk hz hle htot
  have := plus_any bz (zo + k) (n - k) cap Z va A w h.blk h.lz hA hoff (by omega) hc1 hc2 hfit
  refine this.mono fun en w' hd => ?_
  obtain ⟨he, Z', h1, h2, h3⟩ := h.upz hd
  rw [show zo + k + (n - k) = zo + n by omega] at h2
  exact ⟨he, Z', h1, h2.wider (by omega) (Nat.le_refl _), pieces_add Z Z' zo k n _ hk hz h2 h3⟩

end Go.Proofs.YtppblbhkghjphaaGreatDoor

/- Package mul: thirds. -/
namespace Go.Proofs.YtppblbhkghjphaaGreatDoor
open Go.RowKit
open Lm

theorem drop_len_zero (X : List Nat) (d : Nat) (h : X.length ≤ d) : val (X.drop d) = 0 := by
  rw [List.drop_of_length_le h]; rfl

/-- What the product's block says ahead of the middle. -/
theorem thirds_sv (Z : List Nat) (zo d q n zh c0 c4 : Nat) (hd : d ≤ q) (hq : q ≤ n) (hl : zo + n ≤ Z.length) (h0 : sv Z zo d = c0) (h1 : sv Z (zo + d) (q - d) = 0) (h2 : sv Z zh (n - q) = c4) (hz : zh = zo + q ∨ (zh = zo ∧ n - q = 0)) :
    sv Z zo n = c0 + 18446744073709551616 ^ q * c4 := by
  have e1 : sv Z zo q = c0 := by
    have := sv_split Z zo d (q - d) (by omega)
    rw [show d + (q - d) = q by omega, h0, h1, Nat.mul_zero, Nat.add_zero] at this
    exact this
  have e2 := sv_split Z zo q (n - q) (by omega)
  rw [show q + (n - q) = n by omega, e1] at e2
  rw [e2]
  rcases hz with rfl | ⟨rfl, h⟩
  · rw [h2]
  · rw [h, sv_zero] at h2
    rw [h, sv_zero, ← h2]

theorem sv_part_zero (Z : List Nat) (o a c : Nat) (hl : o + a ≤ Z.length) (h : sv Z o (a + c) = 0) : sv Z o a = 0 ∧ sv Z (o + a) c = 0 := by
  rw [sv_split Z o a c hl] at h
  have h1 : sv Z o a = 0 := by omega
  have h2 : 18446744073709551616 ^ a * sv Z (o + a) c = 0 := by omega
  refine ⟨h1, ?_⟩
  rcases Nat.mul_eq_zero.1 h2 with h3 | h3
  · exact absurd h3 (Nat.pos_iff_ne_zero.1 (Nat.pow_pos (by omega)))
  · exact h3

theorem toom_fit (A B s m : Nat) (hA : A < 3 * 18446744073709551616 ^ s) (hB : B < 3 * 18446744073709551616 ^ s) (hm : m = s + 1) : 2 * (A * B) < 18446744073709551616 ^ (m + m) := by
  subst hm
  rw [Nat.pow_add, Nat.pow_succ]
  generalize (18446744073709551616 : Nat) ^ s = P at *
  have h := Nat.mul_lt_mul'' hA hB
  have e1 : 3 * P * (3 * P) = 9 * (P * P) := by grind
  have e2 : P * 18446744073709551616 * (P * 18446744073709551616) = 340282366920938463463374607431768211456 * (P * P) := by grind
  rw [e1] at h
  rw [e2]
  generalize P * P = S at *
  omega

/-- The worlds on the way to the three products: boxes and blocks that stay. -/
def Env (w : World) (kw kx gx gy bz : Nat) (cw cx cy : Array Value) (tw tv : TypeId) (MX MY Z : List Nat) : Prop :=
  w.heap[kw]? = some (.cells cw tw) ∧ w.heap[kx]? = some (.cells cx tv) ∧ w.heap[kx + 1]? = some (.cells cy tv) ∧ Blk w gx MX ∧ Blk w gy MY ∧ Blk w bz Z

theorem block_below {w w' : World} {k : Nat} {o : Obj} (h : w.heap[k]? = some o) (hb : Below w.heap.size w w') : w'.heap[k]? = some o := by
  have hlt : k < w.heap.size := by
    refine Nat.lt_of_not_le fun hle => ?_
    rw [Array.getElem?_eq_none hle] at h; cases h
  rw [hb.block k hlt]; exact h

theorem Env.below {w w' : World} {kw kx gx gy bz : Nat} {cw cx cy : Array Value} {tw tv : TypeId} {MX MY Z : List Nat} (h : Env w kw kx gx gy bz cw cx cy tw tv MX MY Z) (hb : Below w.heap.size w w') : Env w' kw kx gx gy bz cw cx cy tw tv MX MY Z :=
  ⟨block_below h.1 hb, block_below h.2.1 hb, block_below h.2.2.1 hb, h.2.2.2.1.below' hb, h.2.2.2.2.1.below' hb, h.2.2.2.2.2.below' hb⟩

theorem box2 {w : World} {h : Nat} {a b : Value} {t : TypeId} (e : w.heap[h]? = some (.cells #[a, b] t)) : w.cell? ⟨h, 0, none⟩ = some a ∧ w.cell? ⟨h, 1, none⟩ = some b :=
  ⟨by simp [World.cell?, e], by simp [World.cell?, e]⟩

/-- A product of two pieces, in new memory. -/
theorem full_seg (H T : Int) (gx gy o m R n : Nat) (MX MY : List Nat) (w : World) (x y : Nat) (BX : Blk w gx MX) (BY : Blk w gy MY) (LX : Limbs MX) (LY : Limbs MY) (hx : o + m ≤ MX.length) (hy : o + m ≤ MY.length) (hc : m ≤ R - o) (hR : R ≤ 35184372088831) (hm : 0 < m) (hmn : m + m < n)
    (vx : sv MX o m = x) (vy : sv MY o m = y) (hI : ∀ P Q : List Nat, P.length + Q.length < n → IntoOk H T P Q) (hmm : m + m ≤ 35184372088831) :
    Calls Tryz.prog 129 #[way H T, .slice (some ⟨gx, o, none⟩) m (R - o), .slice (some ⟨gy, o, none⟩) m (R - o)] w (FullDone w (m + m) (x * y)) := by
  have s1 := seg_length MX o m hx
  have s2 := seg_length MY o m hy
  have := full_any H T _ _ (seg MX o m) (seg MY o m) w (BX.seg_arg LX o m (R - o) hx hc (by omega) (by omega)) (BY.seg_arg LY o m (R - o) hy hc (by omega) (by omega)) (by omega) (by omega) (by omega) (hI _ _ (by omega))
  rw [s1, s2, show val (seg MX o m) = x from vx, show val (seg MY o m) = y from vy] at this
  exact this

theorem val_thirds (X : List Nat) (s d : Nat) (h1 : d ≤ X.length) (h2 : d ≤ s + s) (h3 : s + s ≤ d) : val X = val (X.take s) + 18446744073709551616 ^ s * val ((X.drop s).take s) + 18446744073709551616 ^ s * 18446744073709551616 ^ s * val (X.drop d) := by
  have e1 := val_halves X s (by omega)
  have e2 := val_halves (X.drop s) s (by simp; omega)
  rw [List.drop_drop, show s + s = d by omega] at e2
  rw [e1, e2, Nat.mul_add, ← Nat.add_assoc, ← Nat.mul_assoc]

theorem thirds_lt {X : List Nat} (hX : Limbs X) (s d : Nat) (h1 : X.length ≤ 3 * s) (h2 : d ≤ s + s ∧ s + s ≤ d) (h3 : d ≤ X.length) : val (X.take s) + val ((X.drop s).take s) + val (X.drop d) < 3 * 18446744073709551616 ^ s := by
  have a := val_take_lt' hX s (by omega)
  have b := val_take_lt' (X := X.drop s) (fun z hz => hX z (List.mem_of_mem_drop hz)) s (by simp; omega)
  have c := val_drop_lt' hX d s (by omega)
  omega

set_option maxRecDepth 20000 in
set_option maxHeartbeats 1000000 in
theorem thirds_any (H T : Int) (bz zo cap s : Nat) (Z : List Nat) (b off c1 b2 off2 c2 : Nat) (X Y : List Nat) (w : World) (hB : Blk w bz Z) (hLZ : Limbs Z)
    (hA : Arg w (.slice (some ⟨b, off, none⟩) X.length c1) X) (hA2 : Arg w (.slice (some ⟨b2, off2, none⟩) Y.length c2) Y) (hb : b ≠ bz) (hb2 : b2 ≠ bz)
    (hzo : zo + (X.length + Y.length) ≤ Z.length) (hc1 : X.length + Y.length ≤ cap) (hc2 : cap ≤ 9223372036854775807) (hs0 : 0 < s) (hYs : 2 * s ≤ Y.length) (hYX : Y.length ≤ X.length) (hXs : X.length ≤ 3 * s) (hlX : X.length ≤ 4398046511103) (h22 : 2 * s + 2 < X.length + Y.length)
    (hI : ∀ P Q : List Nat, P.length + Q.length < X.length + Y.length → IntoOk H T P Q) :
    Calls Tryz.prog 124 #[way H T, .slice (some ⟨bz, zo, none⟩) (X.length + Y.length) cap, .slice (some ⟨b, off, none⟩) X.length c1, .slice (some ⟨b2, off2, none⟩) Y.length c2, .int .i64 s] w (IntoDone bz zo (X.length + Y.length) Z w (val X * val Y)) := by
  unfold way
  obtain ⟨_, _, e0, hcc1, hcm1, _⟩ := hA.form
  cases e0
  obtain ⟨_, _, e0, hcc2, hcm2, _⟩ := hA2.form
  cases e0
  have hbz := hB.lt
  have hbw := hA.block (by omega)
  have hbw2 := hA2.block (by omega)
  obtain ⟨w1, hw1⟩ : ∃ w1, w1 = w.alloc (.cells #[.int .i64 H, .int .i64 T] 128) := ⟨_, rfl⟩
  have hbel1 : Below w.heap.size w w1 := by rw [hw1]; exact (Below.refl _ _).alloc (Nat.le_refl _) _
  have hs1 : w1.heap.size = w.heap.size + 1 := by rw [hw1]; simp
  have hb1 : w1.heap[w.heap.size]? = some (.cells #[.int .i64 H, .int .i64 T] 128) := by rw [hw1]; exact heap_alloc_new ..
  have HW1 := hide hw1
  have HX1 := hide hb1
  have HB1 := hide (hB.below' hbel1)
  have HA1 := hide (hA.below hbel1)
  have HA2 := hide (hA2.below hbel1)
  have HF1 := hide (Fr.of_below (bz := bz) hbel1)
  have HII := hide hI
  have mX := hA.limbs
  have mY := hA2.limbs
  clear hw1 hbel1 hb1 hB hA hA2 hI
  obtain ⟨n, hn⟩ : ∃ n : Nat, X.length + Y.length = n := ⟨_, rfl⟩
  have hn1 : n ≤ X.length + Y.length := by omega
  have hn2 : X.length + Y.length ≤ n := by omega
  rw [hn] at hzo hc1 HII h22 ⊢
  have HN := hide hn
  clear hn
  obtain ⟨d, ed, hd1, hd2⟩ : ∃ d : Nat, (2 : Int) * (s : Int) = (d : Int) ∧ d ≤ 2 * s ∧ 2 * s ≤ d := ⟨2 * s, by omega, by omega, by omega⟩
  obtain ⟨q, eq, hq1, hq2⟩ : ∃ d : Nat, (4 : Int) * (s : Int) = (d : Int) ∧ d ≤ 4 * s ∧ 4 * s ≤ d := ⟨4 * s, by omega, by omega, by omega⟩
  obtain ⟨r, er, hr1, hr2⟩ : ∃ d : Nat, (3 : Int) * (s : Int) = (d : Int) ∧ d ≤ 3 * s ∧ 3 * s ≤ d := ⟨3 * s, by omega, by omega, by omega⟩
  have wd : IntKind.i64.wrap (d : Int) = (d : Int) := by rw [IntKind.wrap_i64]; omega
  have wq : IntKind.i64.wrap (q : Int) = (q : Int) := by rw [IntKind.wrap_i64]; omega
  have kd0 : (0 : Int) ≤ (d : Int) := by omega
  have kd1 : (d : Int) ≤ (n : Int) := by omega
  have kd2 : ¬ cap = d := by omega
  have kd3 : (d : Int) ≤ (cap : Int) := by omega
  have kq0 : (0 : Int) ≤ (q : Int) := by omega
  have kq1 : (q : Int) ≤ (n : Int) := by omega
  have kq3 : (q : Int) ≤ (cap : Int) := by omega
  obtain ⟨zh, ezh, hzh⟩ : ∃ zh : Nat, (if cap = q then (some ⟨bz, zo, none⟩ : Option Addr) else some ⟨bz, zo + q, none⟩) = some ⟨bz, zh, none⟩ ∧ ((zh = zo + q) ∨ (zh = zo ∧ n - q = 0)) := by
    by_cases hc : cap = q
    · exact ⟨zo, by rw [if_pos hc], .inr ⟨rfl, by omega⟩⟩
    · exact ⟨zo + q, by rw [if_neg hc], .inl rfl⟩
  have HZH := hide hzh
  clear hzh
  go_enter Tryz.func124, Tryz.ntmps124
  go_wp2_with fail
  rw [← HW1.out]
  go_region
  obtain ⟨w2, Z1, hrun, O2, L2, B2, F2, S2⟩ := clear_any bz (zo + d) (n - d) (cap - d) Z w1.drew HB1.out hLZ (by omega)
  have F2' := F2.undrew
  have l1 := O2.len
  have HX2 := hide ((F2'.block w.heap.size (by omega) (by omega)).trans HX1.out)
  have HA3 := hide (HA1.out.frb F2' hb)
  have HA23 := hide (HA2.out.frb F2' hb2)
  have HF2 := hide (HF1.out.trans F2')
  have tk1 : (X.take s).length = s := by simp; omega
  have tk2 : (Y.take s).length = s := by simp; omega
  have HI1 := HII.out (X.take s) (Y.take s) (by rw [tk1, tk2]; omega) bz zo cap Z1 _ _ w2.drew B2 L2 (HA3.out.front s (by omega)).drew (HA23.out.front s (by omega)).drew
    (fun b' off' n' c' e => by cases e; exact hb) (fun b' off' n' c' e => by cases e; exact hb2) (by rw [tk1, tk2]; omega) (by rw [tk1, tk2]; omega) (by omega)
  rw [tk1, tk2, show s + s = d by omega] at HI1
  unfold way at HI1
  have HK1 := hide (fun (w7 : World) (hF : Fr bz w2.drew w7) => (by
    have e : w7.heap[w.heap.size]? = some (.cells #[.int .i64 H, .int .i64 T] 128) := by rw [hF.block w.heap.size (by show _ < w2.heap.size; have := F2'.size; omega) (by omega)]; exact HX2.out
    exact ⟨e, by simp [World.cell?, e], by simp [World.cell?, e]⟩ : w7.heap[w.heap.size]? = some (.cells #[.int .i64 H, .int .i64 T] 128) ∧ w7.cell? ⟨w.heap.size, 0, none⟩ = some (.int .i64 H) ∧ w7.cell? ⟨w.heap.size, 1, none⟩ = some (.int .i64 T)))
  have hq0 : w2.cell? ⟨w.heap.size, 0, none⟩ = some (.int .i64 H) := by have e := HX2.out; simp [World.cell?, e]
  have hq1' : w2.cell? ⟨w.heap.size, 1, none⟩ = some (.int .i64 T) := by have e := HX2.out; simp [World.cell?, e]
  have hsz2 : w.heap.size < w2.heap.size := by have := F2'.size; omega
  have HS2 := hide (sv_part_zero Z1 (zo + d) (q - d) (n - q) (by omega) (by rw [show q - d + (n - q) = n - d by omega]; exact S2))
  rw [show zo + d + (q - d) = zo + q by omega] at HS2
  have HO2 := hide (O2.wider (lo' := zo) (hi' := zo + n) (by omega) (by omega))
  have ks0 : (0 : Int) ≤ (s : Int) := by omega
  have ks1 : (s : Int) ≤ (X.length : Int) := by omega
  have ks2 : (s : Int) ≤ (Y.length : Int) := by omega
  have ks3 : (s : Int) ≤ (c1 : Int) := by omega
  have ks4 : (s : Int) ≤ (c2 : Int) := by omega
  clear O2 L2 B2 F2 S2 F2' HB1 HF1 HA1 HA2 HX1 tk1 tk2 hLZ
  go_wp2
  clear hrun HW1 hs1
  go_region_held3 (fun w' => w'.cell? ⟨w.heap.size, 0, none⟩ = some (.int .i64 H) ∧ w'.cell? ⟨w.heap.size, 1, none⟩ = some (.int .i64 T)) (go_keep) (first | (go_at_call 122; refine HI1.mono ?_; rintro e w3 ⟨rfl, Z2, p1, p2, p3, p4, p5⟩; obtain ⟨hx3, hk2, hk3⟩ := HK1.out w3 p4))
  have F3 := p4.undrew
  have HX3 := hide hx3
  have HA4 := hide (HA3.out.frb F3 hb)
  have HA24 := hide (HA23.out.frb F3 hb2)
  have HF3 := hide (HF2.out.trans F3)
  have hsz3 : w.heap.size < w3.heap.size := by have := F3.size; omega
  have l2 := p1.len
  have HO3 := hide (HO2.out.trans (p1.wider (Nat.le_refl _) (by omega)))
  have S3 := hide p5
  have S3b : Hid (sv Z2 (zo + d) (q - d) = 0) := hide (by rw [p1.sv (zo + d) (q - d) (by omega)]; exact HS2.out.1)
  have S3c : Hid (sv Z2 (zo + q) (n - q) = 0) := hide (by rw [p1.sv (zo + q) (n - q) (by omega)]; exact HS2.out.2)
  have HB3 := hide p3
  have HL3 := hide p2
  clear p1 p2 p3 p4 p5 hx3 HI1 HK1 hq0 hq1' HX2 HA3 HA23 HF2 F3 HO2 HS2 hsz2
  by_cases hYd : d < Y.length
  · have kY : (d : Int) < (Y.length : Int) := by omega
    have kY1 : (d : Int) ≤ (X.length : Int) := by omega
    have kY2 : (d : Int) ≤ (Y.length : Int) := by omega
    have kY3 : ¬ c1 = d := by omega
    have kY4 : ¬ c2 = d := by omega
    have hzq : zh = zo + q := by
      rcases HZH.out with h | h
      · exact h
      · omega
    have HI2 := HII.out (X.drop d) (Y.drop d) (by simp; omega) bz zh (cap - q) Z2 _ _ w3.drew HB3.out HL3.out (HA4.out.drop d (by omega)).drew (HA24.out.drop d (by omega)).drew
      (fun b' off' n' c' e => by cases e; exact hb) (fun b' off' n' c' e => by cases e; exact hb2) (by simp; omega) (by simp; omega) (by omega)
    rw [List.length_drop, List.length_drop, show X.length - d + (Y.length - d) = n - q by omega] at HI2
    unfold way at HI2
    have HZQ := hide hzq
    have HK2 := hide (fun (w7 : World) (hF : Fr bz w3.drew w7) => (by
      have e : w7.heap[w.heap.size]? = some (.cells #[.int .i64 H, .int .i64 T] 128) := by rw [hF.block w.heap.size (by show _ < w3.heap.size; omega) (by omega)]; exact HX3.out
      exact ⟨e, by simp [World.cell?, e], by simp [World.cell?, e]⟩ : w7.heap[w.heap.size]? = some (.cells #[.int .i64 H, .int .i64 T] 128) ∧ w7.cell? ⟨w.heap.size, 0, none⟩ = some (.int .i64 H) ∧ w7.cell? ⟨w.heap.size, 1, none⟩ = some (.int .i64 T)))
    clear hzq
    go_wp2
    go_region_held3 (fun w' => w'.cell? ⟨w.heap.size, 0, none⟩ = some (.int .i64 H) ∧ w'.cell? ⟨w.heap.size, 1, none⟩ = some (.int .i64 T)) (go_keep) (first | (go_at_call 122; refine HI2.mono ?_; rintro e w4 ⟨rfl, Z3, p1, p2, p3, p4, p5⟩; obtain ⟨hx4, hk0, hk1⟩ := HK2.out w4 p4))
    have F4 := p4.undrew
    have CX := hide hx4
    have CA := hide (HA4.out.frb F4 hb)
    have CA2 := hide (HA24.out.frb F4 hb2)
    have CF := hide (HF3.out.trans F4)
    have CB := hide p3
    have CL := hide p2
    have lC : zo + n ≤ Z3.length := by have := p1.len; omega
    have hzq := HZQ.out
    have CO := hide (HO3.out.trans (p1.wider (by omega) (by omega)))
    have S0 : sv Z3 zo d = val (X.take s) * val (Y.take s) := by rw [p1.sv zo d (by omega)]; exact S3.out
    have S1 : sv Z3 (zo + d) (q - d) = 0 := by rw [p1.sv (zo + d) (q - d) (by omega)]; exact S3b.out
    have CS0 := hide S0
    have CS2 := hide p5
    have CT := hide (thirds_sv Z3 zo d q n zh _ _ (by omega) (by omega) (by omega) S0 S1 p5 HZH.out)
    have hsz4 : w.heap.size < w4.heap.size := by have := F4.size; omega
    clear p1 p2 p3 p4 p5 hx4 HI2 HK2 hk2 hk3 HX3 HA4 HA24 HF3 F4 HO3 S3 S3b S3c HB3 HL3 hsz3 S0 S1 l2 hzq
    have HV1 := valuesOf_any b off c1 s X w4 CA.out hs0 (by omega) hXs hlX
    rw [show 2 * s = d by omega] at HV1
    go_wp2_with fail
    refine HV1.mono ?_
    rintro e w5 ⟨gx, m, d2, d3, R, ex, MX, em, eR, rfl, hgx, BMX, bel5, QX⟩
    have HV2 := valuesOf_any b2 off2 c2 s Y w5 (CA2.out.below bel5) hs0 (by omega) (by omega) (by omega)
    rw [show 2 * s = d by omega] at HV2
    have HD5 := hide (And.intro BMX (And.intro bel5 QX))
    have HEM := hide (And.intro em eR)
    have hm1 : m ≤ s + 1 := by omega
    have hm2 : s + 1 ≤ m := by omega
    have hR1 : R ≤ 4 * m := by omega
    have hR2 : 4 * m ≤ R := by omega
    clear BMX bel5 QX HV1 em eR
    generalize hbx : decide (val (X.take s) + val (X.drop d) < val ((X.drop s).take s)) = bx
    have HBX := hide hbx
    clear hbx
    go_wp2_with fail
    refine HV2.mono ?_
    rintro e w6 ⟨gy, m', d2', d3', R', ey, MY, em', eR', rfl, hgy, BMY, bel6, QY⟩
    obtain rfl : m = m' := by have := HEM.out.1; omega
    obtain rfl : R = R' := by have := HEM.out.2; omega
    obtain rfl : d2 = d2' := by have := HD5.out.2.2.h2; have := QY.h2; omega
    obtain rfl : d3 = d3' := by have := HD5.out.2.2.h3; have := QY.h3; omega
    obtain ⟨BMX, bel5, QX⟩ := HD5.out
    have hd2a : d2 ≤ m + m := Nat.le_of_eq QX.h2
    have hd2b : m + m ≤ d2 := Nat.le_of_eq QX.h2.symm
    have hd3a : d3 ≤ m + m + m := Nat.le_of_eq QX.h3
    have hd3b : m + m + m ≤ d3 := Nat.le_of_eq QX.h3.symm
    have lX : m + m + m + m ≤ MX.length := Nat.le_of_eq QX.len.symm
    have lY : m + m + m + m ≤ MY.length := Nat.le_of_eq QY.len.symm
    generalize hby : decide (val (Y.take s) + val (Y.drop d) < val ((Y.drop s).take s)) = by'
    obtain ⟨w7, hw7⟩ : ∃ w7, w7 = (w6.alloc (.cells #[.slice (some ⟨gx, m, none⟩) m (R - m), .slice (some ⟨gx, d2, none⟩) m (R - d2), .slice (some ⟨gx, d3, none⟩) m (R - d3), .bool bx] 137)).alloc (.cells #[.slice (some ⟨gy, m, none⟩) m (R - m), .slice (some ⟨gy, d2, none⟩) m (R - d2), .slice (some ⟨gy, d3, none⟩) m (R - d3), .bool by'] 137) := ⟨_, rfl⟩
    have bel7 : Below w6.heap.size w6 w7 := by rw [hw7]; exact ((Below.refl _ _).alloc (Nat.le_refl _) _).alloc (by simp) _
    obtain ⟨kx, hkx⟩ : ∃ k, k = w6.heap.size := ⟨_, rfl⟩
    have belC : Below w4.heap.size w4 w7 := bel5.trans ((bel6.mono bel5.size).trans (bel7.mono (Nat.le_trans bel5.size bel6.size)))
    have E7 : Env w7 w.heap.size kx gx gy bz #[.int .i64 H, .int .i64 T] #[.slice (some ⟨gx, m, none⟩) m (R - m), .slice (some ⟨gx, d2, none⟩) m (R - d2), .slice (some ⟨gx, d3, none⟩) m (R - d3), .bool bx] #[.slice (some ⟨gy, m, none⟩) m (R - m), .slice (some ⟨gy, d2, none⟩) m (R - d2), .slice (some ⟨gy, d3, none⟩) m (R - d3), .bool by'] 128 137 MX MY Z3 := by
      refine ⟨block_below CX.out belC, ?_, ?_, (BMX.below' bel6).below' bel7, BMY.below' bel7, CB.out.below' belC⟩
      · rw [hkx, hw7, Below.heap_alloc _ _ _ (by simp)]; exact heap_alloc_new ..
      · rw [hkx, hw7, show w6.heap.size + 1 = (w6.alloc (.cells #[.slice (some ⟨gx, m, none⟩) m (R - m), .slice (some ⟨gx, d2, none⟩) m (R - d2), .slice (some ⟨gx, d3, none⟩) m (R - d3), .bool bx] 137)).heap.size by simp]; exact heap_alloc_new ..
    have hN : m + m = m + m := rfl
    have HF1 := full_seg H T gx gy m m R n MX MY w7 _ _ E7.2.2.2.1 E7.2.2.2.2.1 QX.limbs QY.limbs (by omega) (by omega) (by omega) (by omega) (by omega) (by omega) QX.v1 QY.v1 HII.out (by omega)
    unfold way at HF1
    obtain ⟨hq0, hq1'⟩ := box2 E7.1
    obtain ⟨hx0, _, _, _⟩ := box4 E7.2.1
    obtain ⟨hy0, _, _, _⟩ := box4 E7.2.2.1
    have HE7 := hide E7
    have HQX := hide QX
    have HQY := hide QY
    have HBEL := hide belC
    have HW7 := hide hw7
    have HKX := hide hkx
    have HBY := hide hby
    rw [hkx] at hx0 hy0
    rw [hw7] at hq0 hq1' hx0 hy0
    obtain ⟨N, hNm, hN1, hN2⟩ : ∃ N : Nat, m + m = N ∧ N ≤ 2 * m ∧ 2 * m ≤ N := ⟨_, rfl, by omega, by omega⟩
    have HNM := hide hNm
    have hNb : N ≤ 1125899906842624 := by omega
    rw [hNm] at HF1
    have hszC := belC.size
    have hkx7 : kx + 1 < w7.heap.size := lt_of_block HE7.out.2.2.1
    have hkxb : w.heap.size < kx := by have := HKX.out; have := bel5.size; have := bel6.size; omega
    clear E7 QX QY belC bel5 bel6 bel7 BMX BMY hw7 hkx hby HD5 hgx hgy HV2 em' eR' hN hNm hk0 hk1
    go_wp2_with fail
    rw [← HW7.out, ← HKX.out]
    clear hq0 hq1' hx0 hy0
    refine HF1.mono ?_
    rintro e w8 ⟨g1, V1, rfl, hg1, lV1, LV1, BV1, vV1, bel8⟩
    have E8 := HE7.out.below bel8
    have HF2 := full_seg H T gx gy d3 m R n MX MY w8 _ _ E8.2.2.2.1 E8.2.2.2.2.1 HQX.out.limbs HQY.out.limbs (by omega) (by omega) (by omega) (by omega) (by omega) (by omega) HQX.out.v3 HQY.out.v3 HII.out (by omega)
    unfold way at HF2
    rw [HNM.out] at HF2
    obtain ⟨hq0, hq1'⟩ := box2 E8.1
    obtain ⟨_, _, hx2, _⟩ := box4 E8.2.1
    obtain ⟨_, _, hy2, _⟩ := box4 E8.2.2.1
    have HE8 := hide E8
    have hlt1 := BV1.lt
    have hsz8 := bel8.size
    have HBEL8 := hide (HBEL.out.trans (bel8.mono HBEL.out.size))
    have HV1 : Hid (Hold w8 g1 N _) := hide ⟨V1, BV1, LV1, lV1, vV1⟩
    clear E8 bel8 BV1 LV1 lV1 vV1 V1 HF1 HE7 HBEL
    go_wp2_with fail
    refine HF2.mono ?_
    rintro e w9 ⟨g2, V2, rfl, hg2, lV2, LV2, BV2, vV2, bel9⟩
    have E9 := HE8.out.below bel9
    have HF3 := full_seg H T gx gy d2 m R n MX MY w9 _ _ E9.2.2.2.1 E9.2.2.2.2.1 HQX.out.limbs HQY.out.limbs (by omega) (by omega) (by omega) (by omega) (by omega) (by omega) HQX.out.v2 HQY.out.v2 HII.out (by omega)
    unfold way at HF3
    rw [HNM.out] at HF3
    clear hq0 hq1' hx2 hy2
    obtain ⟨hq0, hq1'⟩ := box2 E9.1
    obtain ⟨_, hx1, _, _⟩ := box4 E9.2.1
    obtain ⟨_, hy1, _, _⟩ := box4 E9.2.2.1
    have HE9 := hide E9
    have hlt2 := BV2.lt
    have hsz9 := bel9.size
    have HBEL9 := hide (HBEL8.out.trans (bel9.mono HBEL8.out.size))
    have HV1' := hide (HV1.out.fr (Fr.of_below (bz := bz) bel9) (by omega))
    have HV2 : Hid (Hold w9 g2 N _) := hide ⟨V2, BV2, LV2, lV2, vV2⟩
    clear E9 bel9 BV2 LV2 lV2 vV2 V2 HF2 HE8 HBEL8 HV1
    go_wp2_with fail
    refine HF3.mono ?_
    rintro e w10 ⟨g3, V3, rfl, hg3, lV3, LV3, BV3, vV3, bel10⟩
    have E10 := HE9.out.below bel10
    have hlt3 := BV3.lt
    have HS0 := St3.mk (CF.out.trans (Fr.of_below (HBEL9.out.trans (bel10.mono HBEL9.out.size)))) E10.2.2.2.2.2 CL.out hbz (by omega) (by omega) (by omega) (by omega) (by omega) (by omega) (HV1'.out.fr (Fr.of_below (bz := bz) bel10) (by omega)) (HV2.out.fr (Fr.of_below (bz := bz) bel10) (by omega)) (⟨V3, BV3, LV3, lV3, vV3⟩ : Hold w10 g3 N _) (Nat.le_refl w10.heap.size) (fun _ _ _ _ _ _ => rfl)
    have T1 := toom_one (val (X.take s)) (val ((X.drop s).take s)) (val (X.drop d)) (val (Y.take s)) (val ((Y.drop s).take s)) (val (Y.drop d))
    have T2 := toom_two (val (X.take s)) (val ((X.drop s).take s)) (val (X.drop d)) (val (Y.take s)) (val ((Y.drop s).take s)) (val (Y.drop d))
    have T3 := toom_less (val (X.take s)) (val ((X.drop s).take s)) (val (X.drop d)) (val (Y.take s)) (val ((Y.drop s).take s)) (val (Y.drop d)) _ _ rfl rfl
    rw [HBX.out, HBY.out] at T3
    have FT := toom_fit (val (X.take s) + val ((X.drop s).take s) + val (X.drop d)) (val (Y.take s) + val ((Y.drop s).take s) + val (Y.drop d)) s m (thirds_lt mX s d (by omega) ⟨by omega, by omega⟩ (by omega)) (thirds_lt mY s d (by omega) ⟨by omega, by omega⟩ (by omega)) HEM.out.1
    rw [HNM.out] at FT
    have TT := toom_total (val (X.take s)) (val ((X.drop s).take s)) (val (X.drop d)) (val (Y.take s)) (val ((Y.drop s).take s)) (val (Y.drop d)) (18446744073709551616 ^ s)
    rw [← val_thirds X s d (by omega) (by omega) (by omega), ← val_thirds Y s d (by omega) (by omega) (by omega), ← Nat.pow_add, ← Nat.pow_add, ← Nat.pow_add, show s + s + (s + s) = q by omega, show s + s + s = r by omega, show s + s = d by omega] at TT
    obtain ⟨c0, k0⟩ : ∃ c, val (X.take s) * val (Y.take s) = c := ⟨_, rfl⟩
    obtain ⟨c1', k1⟩ : ∃ c, val (X.take s) * val ((Y.drop s).take s) + val ((X.drop s).take s) * val (Y.take s) = c := ⟨_, rfl⟩
    obtain ⟨c2', k2⟩ : ∃ c, val (X.take s) * val (Y.drop d) + val ((X.drop s).take s) * val ((Y.drop s).take s) + val (X.drop d) * val (Y.take s) = c := ⟨_, rfl⟩
    obtain ⟨c3, k3⟩ : ∃ c, val ((X.drop s).take s) * val (Y.drop d) + val (X.drop d) * val ((Y.drop s).take s) = c := ⟨_, rfl⟩
    obtain ⟨c4, k4⟩ : ∃ c, val (X.drop d) * val (Y.drop d) = c := ⟨_, rfl⟩
    rw [k0, k1, k2, k3, k4] at T1 T2 T3 TT
    rw [k0] at CS0
    rw [k0, k4] at CT
    rw [k4] at CS2
    clear k0 k1 k2 k3 k4
    obtain ⟨v1, e1⟩ : ∃ v, (val (X.take s) + val ((X.drop s).take s) + val (X.drop d)) * (val (Y.take s) + val ((Y.drop s).take s) + val (Y.drop d)) = v := ⟨_, rfl⟩
    obtain ⟨v2, e2⟩ : ∃ v, (if val (X.take s) + val (X.drop d) < val ((X.drop s).take s) then val ((X.drop s).take s) - (val (X.take s) + val (X.drop d)) else val (X.take s) + val (X.drop d) - val ((X.drop s).take s)) * (if val (Y.take s) + val (Y.drop d) < val ((Y.drop s).take s) then val ((Y.drop s).take s) - (val (Y.take s) + val (Y.drop d)) else val (Y.take s) + val (Y.drop d) - val ((Y.drop s).take s)) = v := ⟨_, rfl⟩
    obtain ⟨v3, e3⟩ : ∃ v, (val (X.take s) + val ((X.drop s).take s) * 2 + val (X.drop d) * 4) * (val (Y.take s) + val ((Y.drop s).take s) * 2 + val (Y.drop d) * 4) = v := ⟨_, rfl⟩
    rw [e1] at T1 T3 FT
    rw [e2] at T3
    rw [e3] at T2
    rw [e1, e2, e3] at HS0
    clear e1 e2 e3
    have hXY : val X * val Y < 18446744073709551616 ^ n := by
      rw [← HN.out, Nat.pow_add]; exact Nat.mul_lt_mul'' (val_lt mX) (val_lt mY)
    have TOT := hide (And.intro hXY (And.intro (show c0 + 18446744073709551616 ^ q * c4 + 18446744073709551616 ^ s * c1' ≤ val X * val Y by omega) (And.intro (show c0 + 18446744073709551616 ^ q * c4 + 18446744073709551616 ^ s * c1' + 18446744073709551616 ^ d * c2' ≤ val X * val Y by omega) TT.symm)))
    have hv3 := hide T2
    have HFT := hide FT
    have HE10 := hide E10
    have HT1 := hide T1
    clear hXY TT T1 T2 FT E10 bel10 BV3 LV3 lV3 vV3 V3 HF3 HE9 HBEL9 HV1' HV2 hq0 hq1' hx1 hy1 HQX HQY HBX HBY HEM HNM HW7 HKX mX mY CB CF CX CL CA CA2
    by_cases hsame : bx = by'
    · subst hsame
      rw [if_pos rfl] at T3
      obtain ⟨kv, hkv⟩ : ∃ k, k = c0 + c2' + c4 := ⟨_, rfl⟩
      obtain ⟨ov, hov⟩ : ∃ k, k = c1' + c3 := ⟨_, rfl⟩
      have HKV := hide (show v2 + v1 = 2 * kv by omega)
      have HOV := hide (show v1 = ov + kv by have := HT1.out; omega)
      have HDE := hide (And.intro hkv hov)
      clear hkv hov T3
      obtain ⟨EL, hEL, vEL⟩ := HS0.ho.arg hNb
      have HC := HS0.plus hNb (v2 + v1) hEL (aside_of HS0.oe _ _) (by rw [vEL]) (by have := HKV.out; have := HOV.out; have := HFT.out; omega)
      have HS := hide HS0
      clear hEL vEL EL HS0
      go_wp2_with fail
      refine HC.mono ?_
      rintro e wp1 ⟨rfl, h⟩
      clear HS HC
      have HS := hide h
      have HC := h.half hNb kv HKV.out
      clear h
      go_wp2_with fail
      refine HC.mono ?_
      rintro e wp2 ⟨rfl, h⟩
      clear HS HC
      have HS := hide h
      obtain ⟨EL, hEL, vEL⟩ := h.he.arg hNb
      have HC := h.oe'.minus hNb ov hEL (aside_of (Ne.symm h.oe) _ _) (by rw [vEL]; exact HOV.out)
      clear h hEL vEL EL
      go_wp2_with fail
      refine HC.mono ?_
      rintro e wp3 ⟨rfl, h⟩
      clear HS HC
      obtain ⟨_, _, _, hx3⟩ := box4 ((h.keep kx (by omega) (by omega) (by omega) (by omega) (by omega)).trans HE10.out.2.1)
      obtain ⟨_, _, _, hy3⟩ := box4 ((h.keep (kx + 1) (by omega) (by omega) (by omega) (by omega) (by omega)).trans HE10.out.2.2.1)
      have HS := hide h.oe'
      rw [HDE.out.1, HDE.out.2] at HS
      clear h
      have h := HS.out
      have HC := h.minus hNb (c2' + c4) (h.blk.seg_arg h.lz zo d cap (by omega) (by omega) (by omega) (by omega)) (aside_of (by have := h.lt; have := h.ne; omega) _ _) (by rw [show val (seg Z3 zo d) = c0 from CS0.out]; omega)
      clear h
      go_wp2_with fail
      refine HC.mono ?_
      rintro e wa ⟨rfl, h⟩
      clear HS HC
      have HS := hide h
      have HC := h.minus hNb c2' (h.blk.seg_arg h.lz zh (n - q) (cap - q) (by rcases HZH.out with h | h <;> omega) (by omega) (by omega) (by omega)) (aside_of (by have := h.lt; have := h.ne; omega) _ _) (by rw [show val (seg Z3 zh (n - q)) = c4 from CS2.out])
      clear h
      go_wp2_with fail
      refine HC.mono ?_
      rintro e wb ⟨rfl, h⟩
      clear HS HC
      have HS := hide h
      have HC := h.et'.minus hNb (2 * c1' + 4 * c2' + 8 * c3 + 16 * c4) (h.blk.seg_arg h.lz zo d cap (by omega) (by omega) (by omega) (by omega)) (aside_of (by have := h.lt; have := h.nt; omega) _ _) (by rw [show val (seg Z3 zo d) = c0 from CS0.out, hv3.out]; omega)
      clear h
      go_wp2_with fail
      refine HC.mono ?_
      rintro e wc ⟨rfl, h⟩
      clear HS HC
      have HS := hide h
      have HC := h.half hNb (c1' + 2 * c2' + 4 * c3 + 8 * c4) (by omega)
      clear h
      go_wp2_with fail
      refine HC.mono ?_
      rintro e wd' ⟨rfl, h⟩
      clear HS HC
      have HS := hide h
      obtain ⟨EL, hEL, vEL⟩ := h.ht.arg hNb
      have HC := h.minusTimes hNb (c1' + 4 * c3 + 8 * c4) 2 hEL (aside_of (Ne.symm h.et) _ _) (by rw [vEL]; omega) (by omega) (by omega)
      rw [show ((2 : Nat) : Int) = 2 from rfl] at HC
      clear h hEL vEL EL
      go_wp2_with fail
      refine HC.mono ?_
      rintro e we ⟨rfl, h⟩
      clear HS HC
      have HS := hide h
      have HC := h.minusTimes hNb (c1' + 4 * c3) 8 (h.blk.seg_arg h.lz zh (n - q) (cap - q) (by rcases HZH.out with h | h <;> omega) (by omega) (by omega) (by omega)) (aside_of (by have := h.lt; have := h.ne; omega) _ _) (by rw [show val (seg Z3 zh (n - q)) = c4 from CS2.out]; omega) (by omega) (by omega)
      rw [show ((8 : Nat) : Int) = 8 from rfl] at HC
      clear h
      go_wp2_with fail
      refine HC.mono ?_
      rintro e wf ⟨rfl, h⟩
      clear HS HC
      have HS := hide h
      obtain ⟨EL, hEL, vEL⟩ := h.ho.arg hNb
      have HC := h.minus hNb (3 * c3) hEL (aside_of h.oe _ _) (by rw [vEL]; omega)
      clear h hEL vEL EL
      go_wp2_with fail
      refine HC.mono ?_
      rintro e wg ⟨rfl, h⟩
      clear HS HC
      have HS := hide h
      have HC := h.third hNb c3 rfl
      clear h
      go_wp2_with fail
      refine HC.mono ?_
      rintro e wh ⟨rfl, h⟩
      clear HS HC
      have HS := hide h
      obtain ⟨EL, hEL, vEL⟩ := h.he.arg hNb
      have HC := h.oe'.minus hNb c1' hEL (aside_of (Ne.symm h.oe) _ _) (by rw [vEL])
      clear h hEL vEL EL
      go_wp2_with fail
      refine HC.mono ?_
      rintro e wi ⟨rfl, h⟩
      clear HS HC
      have HS := hide h
      obtain ⟨EL, hEL, vEL⟩ := h.he.arg hNb
      have HC := h.add zo n s (cap - s) hEL (aside_of (by have := h.lt; have := h.ne; omega) _ _) (by omega) (by omega) (by omega) (by omega) _ (by rw [vEL, CT.out]; exact TOT.out.2.1) TOT.out.1
      rw [vEL, CT.out] at HC
      clear h hEL vEL EL
      go_wp2_with fail
      refine HC.mono ?_
      rintro e wj ⟨rfl, ZJ, h, OJ, SJ⟩
      have lJ := OJ.len
      clear HS HC
      have HS := hide h
      have HSJ := hide SJ
      have HOJ := hide OJ
      obtain ⟨EL, hEL, vEL⟩ := h.ht.arg hNb
      have HC := h.add zo n d (cap - d) hEL (aside_of (by have := h.lt; have := h.nt; omega) _ _) (by omega) (by omega) (by omega) (by omega) _ (by rw [vEL, SJ]; exact TOT.out.2.2.1) TOT.out.1
      rw [vEL, SJ] at HC
      clear h hEL vEL EL OJ SJ
      go_wp2_with fail
      refine HC.mono ?_
      rintro e wk' ⟨rfl, ZK, h, OK', SK⟩
      have lK := OK'.len
      clear HS HC HSJ
      have HS := hide h
      have HSK := hide SK
      have HOK := hide (HOJ.out.trans OK')
      obtain ⟨EL, hEL, vEL⟩ := h.ho.arg hNb
      have HC := h.add zo n r (cap - r) hEL (aside_of (by have := h.lt; have := h.no; omega) _ _) (by omega) (by omega) (by omega) (by omega) _ (by rw [vEL, SK]; exact Nat.le_of_eq TOT.out.2.2.2) TOT.out.1
      rw [vEL, SK] at HC
      clear h hEL vEL EL OK' SK
      go_wp2_with fail
      refine HC.mono ?_
      rintro e wl ⟨rfl, ZL, h, OL, SL⟩
      have HD := hide (show IntoDone bz zo n Z w (val X * val Y) (.returned (.tuple #[])) wl from ⟨rfl, ZL, CO.out.trans (HOK.out.trans OL), h.lz, h.blk, h.fr, by rw [SL, TOT.out.2.2.2]⟩)
      clear h OL SL HS HC HSK HOK
      go_wp2
      go_end0
      exact HD.out
    · rw [if_neg hsame] at T3
      obtain ⟨kv, hkv⟩ : ∃ k, k = c1' + c3 := ⟨_, rfl⟩
      obtain ⟨ov, hov⟩ : ∃ k, k = c0 + c2' + c4 := ⟨_, rfl⟩
      have HKV := hide (show v2 + v1 = 2 * kv by omega)
      have HOV := hide (show v1 = ov + kv by have := HT1.out; omega)
      have HDE := hide (And.intro hkv hov)
      have hs1' : (bx == by') = false := by simpa using hsame
      have hs2' : decide (bx = by') = false := by simpa using hsame
      clear hkv hov T3
      obtain ⟨EL, hEL, vEL⟩ := HS0.ho.arg hNb
      have HC := HS0.plus hNb (v2 + v1) hEL (aside_of HS0.oe _ _) (by rw [vEL]) (by have := HKV.out; have := HOV.out; have := HFT.out; omega)
      have HS := hide HS0
      clear hEL vEL EL HS0
      go_wp2_with fail
      refine HC.mono ?_
      rintro e wp1 ⟨rfl, h⟩
      clear HS HC
      have HS := hide h
      have HC := h.half hNb kv HKV.out
      clear h
      go_wp2_with fail
      refine HC.mono ?_
      rintro e wp2 ⟨rfl, h⟩
      clear HS HC
      have HS := hide h
      obtain ⟨EL, hEL, vEL⟩ := h.he.arg hNb
      have HC := h.oe'.minus hNb ov hEL (aside_of (Ne.symm h.oe) _ _) (by rw [vEL]; exact HOV.out)
      clear h hEL vEL EL
      go_wp2_with fail
      refine HC.mono ?_
      rintro e wp3 ⟨rfl, h⟩
      clear HS HC
      obtain ⟨_, _, _, hx3⟩ := box4 ((h.keep kx (by omega) (by omega) (by omega) (by omega) (by omega)).trans HE10.out.2.1)
      obtain ⟨_, _, _, hy3⟩ := box4 ((h.keep (kx + 1) (by omega) (by omega) (by omega) (by omega) (by omega)).trans HE10.out.2.2.1)
      have HS := hide h
      rw [HDE.out.1, HDE.out.2] at HS
      clear h
      have h := HS.out
      have HC := h.minus hNb (c2' + c4) (h.blk.seg_arg h.lz zo d cap (by omega) (by omega) (by omega) (by omega)) (aside_of (by have := h.lt; have := h.ne; omega) _ _) (by rw [show val (seg Z3 zo d) = c0 from CS0.out]; omega)
      clear h
      go_wp2_with fail
      refine HC.mono ?_
      rintro e wa ⟨rfl, h⟩
      clear HS HC
      have HS := hide h
      have HC := h.minus hNb c2' (h.blk.seg_arg h.lz zh (n - q) (cap - q) (by rcases HZH.out with h | h <;> omega) (by omega) (by omega) (by omega)) (aside_of (by have := h.lt; have := h.ne; omega) _ _) (by rw [show val (seg Z3 zh (n - q)) = c4 from CS2.out])
      clear h
      go_wp2_with fail
      refine HC.mono ?_
      rintro e wb ⟨rfl, h⟩
      clear HS HC
      have HS := hide h
      have HC := h.et'.minus hNb (2 * c1' + 4 * c2' + 8 * c3 + 16 * c4) (h.blk.seg_arg h.lz zo d cap (by omega) (by omega) (by omega) (by omega)) (aside_of (by have := h.lt; have := h.nt; omega) _ _) (by rw [show val (seg Z3 zo d) = c0 from CS0.out, hv3.out]; omega)
      clear h
      go_wp2_with fail
      refine HC.mono ?_
      rintro e wc ⟨rfl, h⟩
      clear HS HC
      have HS := hide h
      have HC := h.half hNb (c1' + 2 * c2' + 4 * c3 + 8 * c4) (by omega)
      clear h
      go_wp2_with fail
      refine HC.mono ?_
      rintro e wd' ⟨rfl, h⟩
      clear HS HC
      have HS := hide h
      obtain ⟨EL, hEL, vEL⟩ := h.ht.arg hNb
      have HC := h.minusTimes hNb (c1' + 4 * c3 + 8 * c4) 2 hEL (aside_of (Ne.symm h.et) _ _) (by rw [vEL]; omega) (by omega) (by omega)
      rw [show ((2 : Nat) : Int) = 2 from rfl] at HC
      clear h hEL vEL EL
      go_wp2_with fail
      refine HC.mono ?_
      rintro e we ⟨rfl, h⟩
      clear HS HC
      have HS := hide h
      have HC := h.minusTimes hNb (c1' + 4 * c3) 8 (h.blk.seg_arg h.lz zh (n - q) (cap - q) (by rcases HZH.out with h | h <;> omega) (by omega) (by omega) (by omega)) (aside_of (by have := h.lt; have := h.ne; omega) _ _) (by rw [show val (seg Z3 zh (n - q)) = c4 from CS2.out]; omega) (by omega) (by omega)
      rw [show ((8 : Nat) : Int) = 8 from rfl] at HC
      clear h
      go_wp2_with fail
      refine HC.mono ?_
      rintro e wf ⟨rfl, h⟩
      clear HS HC
      have HS := hide h
      obtain ⟨EL, hEL, vEL⟩ := h.ho.arg hNb
      have HC := h.minus hNb (3 * c3) hEL (aside_of h.oe _ _) (by rw [vEL]; omega)
      clear h hEL vEL EL
      go_wp2_with fail
      refine HC.mono ?_
      rintro e wg ⟨rfl, h⟩
      clear HS HC
      have HS := hide h
      have HC := h.third hNb c3 rfl
      clear h
      go_wp2_with fail
      refine HC.mono ?_
      rintro e wh ⟨rfl, h⟩
      clear HS HC
      have HS := hide h
      obtain ⟨EL, hEL, vEL⟩ := h.he.arg hNb
      have HC := h.oe'.minus hNb c1' hEL (aside_of (Ne.symm h.oe) _ _) (by rw [vEL])
      clear h hEL vEL EL
      go_wp2_with fail
      refine HC.mono ?_
      rintro e wi ⟨rfl, h⟩
      clear HS HC
      have HS := hide h
      obtain ⟨EL, hEL, vEL⟩ := h.he.arg hNb
      have HC := h.add zo n s (cap - s) hEL (aside_of (by have := h.lt; have := h.ne; omega) _ _) (by omega) (by omega) (by omega) (by omega) _ (by rw [vEL, CT.out]; exact TOT.out.2.1) TOT.out.1
      rw [vEL, CT.out] at HC
      clear h hEL vEL EL
      go_wp2_with fail
      refine HC.mono ?_
      rintro e wj ⟨rfl, ZJ, h, OJ, SJ⟩
      have lJ := OJ.len
      clear HS HC
      have HS := hide h
      have HSJ := hide SJ
      have HOJ := hide OJ
      obtain ⟨EL, hEL, vEL⟩ := h.ht.arg hNb
      have HC := h.add zo n d (cap - d) hEL (aside_of (by have := h.lt; have := h.nt; omega) _ _) (by omega) (by omega) (by omega) (by omega) _ (by rw [vEL, SJ]; exact TOT.out.2.2.1) TOT.out.1
      rw [vEL, SJ] at HC
      clear h hEL vEL EL OJ SJ
      go_wp2_with fail
      refine HC.mono ?_
      rintro e wk' ⟨rfl, ZK, h, OK', SK⟩
      have lK := OK'.len
      clear HS HC HSJ
      have HS := hide h
      have HSK := hide SK
      have HOK := hide (HOJ.out.trans OK')
      obtain ⟨EL, hEL, vEL⟩ := h.ho.arg hNb
      have HC := h.add zo n r (cap - r) hEL (aside_of (by have := h.lt; have := h.no; omega) _ _) (by omega) (by omega) (by omega) (by omega) _ (by rw [vEL, SK]; exact Nat.le_of_eq TOT.out.2.2.2) TOT.out.1
      rw [vEL, SK] at HC
      clear h hEL vEL EL OK' SK
      go_wp2_with fail
      refine HC.mono ?_
      rintro e wl ⟨rfl, ZL, h, OL, SL⟩
      have HD := hide (show IntoDone bz zo n Z w (val X * val Y) (.returned (.tuple #[])) wl from ⟨rfl, ZL, CO.out.trans (HOK.out.trans OL), h.lz, h.blk, h.fr, by rw [SL, TOT.out.2.2.2]⟩)
      clear h OL SL HS HC HSK HOK
      go_wp2
      go_end0
      exact HD.out
  · have kY : ¬ (d : Int) < (Y.length : Int) := by omega
    have hY0 : val (Y.drop d) = 0 := drop_len_zero Y d (by omega)
    have CX := HX3
    have CA := HA4
    have CA2 := HA24
    have CF := HF3
    have CB := HB3
    have CL := HL3
    have lC : zo + n ≤ Z2.length := by omega
    have CO := HO3
    have CS0 := S3
    have S2 : sv Z2 zh (n - q) = val (X.drop d) * val (Y.drop d) := by
      rw [hY0, Nat.mul_zero]
      rcases HZH.out with h | h
      · rw [h]; exact S3c.out
      · rw [h.2, sv_zero]
    have CS2 := hide S2
    have CT := hide (thirds_sv Z2 zo d q n zh _ _ (by omega) (by omega) (by omega) S3.out S3b.out S2 HZH.out)
    have hsz4 := hsz3
    have hk0 := hk2
    have hk1 := hk3
    clear hk2 hk3 HX3 HA4 HA24 HF3 HO3 S3 S3b S3c HB3 HL3 S2 hY0 l2 hYd
    have HV1 := valuesOf_any b off c1 s X w3 CA.out hs0 (by omega) hXs hlX
    rw [show 2 * s = d by omega] at HV1
    go_wp2_with fail
    refine HV1.mono ?_
    rintro e w5 ⟨gx, m, d2, d3, R, ex, MX, em, eR, rfl, hgx, BMX, bel5, QX⟩
    have HV2 := valuesOf_any b2 off2 c2 s Y w5 (CA2.out.below bel5) hs0 (by omega) (by omega) (by omega)
    rw [show 2 * s = d by omega] at HV2
    have HD5 := hide (And.intro BMX (And.intro bel5 QX))
    have HEM := hide (And.intro em eR)
    have hm1 : m ≤ s + 1 := by omega
    have hm2 : s + 1 ≤ m := by omega
    have hR1 : R ≤ 4 * m := by omega
    have hR2 : 4 * m ≤ R := by omega
    clear BMX bel5 QX HV1 em eR
    generalize hbx : decide (val (X.take s) + val (X.drop d) < val ((X.drop s).take s)) = bx
    have HBX := hide hbx
    clear hbx
    go_wp2_with fail
    refine HV2.mono ?_
    rintro e w6 ⟨gy, m', d2', d3', R', ey, MY, em', eR', rfl, hgy, BMY, bel6, QY⟩
    obtain rfl : m = m' := by have := HEM.out.1; omega
    obtain rfl : R = R' := by have := HEM.out.2; omega
    obtain rfl : d2 = d2' := by have := HD5.out.2.2.h2; have := QY.h2; omega
    obtain rfl : d3 = d3' := by have := HD5.out.2.2.h3; have := QY.h3; omega
    obtain ⟨BMX, bel5, QX⟩ := HD5.out
    have hd2a : d2 ≤ m + m := Nat.le_of_eq QX.h2
    have hd2b : m + m ≤ d2 := Nat.le_of_eq QX.h2.symm
    have hd3a : d3 ≤ m + m + m := Nat.le_of_eq QX.h3
    have hd3b : m + m + m ≤ d3 := Nat.le_of_eq QX.h3.symm
    have lX : m + m + m + m ≤ MX.length := Nat.le_of_eq QX.len.symm
    have lY : m + m + m + m ≤ MY.length := Nat.le_of_eq QY.len.symm
    generalize hby : decide (val (Y.take s) + val (Y.drop d) < val ((Y.drop s).take s)) = by'
    obtain ⟨w7, hw7⟩ : ∃ w7, w7 = (w6.alloc (.cells #[.slice (some ⟨gx, m, none⟩) m (R - m), .slice (some ⟨gx, d2, none⟩) m (R - d2), .slice (some ⟨gx, d3, none⟩) m (R - d3), .bool bx] 137)).alloc (.cells #[.slice (some ⟨gy, m, none⟩) m (R - m), .slice (some ⟨gy, d2, none⟩) m (R - d2), .slice (some ⟨gy, d3, none⟩) m (R - d3), .bool by'] 137) := ⟨_, rfl⟩
    have bel7 : Below w6.heap.size w6 w7 := by rw [hw7]; exact ((Below.refl _ _).alloc (Nat.le_refl _) _).alloc (by simp) _
    obtain ⟨kx, hkx⟩ : ∃ k, k = w6.heap.size := ⟨_, rfl⟩
    have belC : Below w3.heap.size w3 w7 := bel5.trans ((bel6.mono bel5.size).trans (bel7.mono (Nat.le_trans bel5.size bel6.size)))
    have E7 : Env w7 w.heap.size kx gx gy bz #[.int .i64 H, .int .i64 T] #[.slice (some ⟨gx, m, none⟩) m (R - m), .slice (some ⟨gx, d2, none⟩) m (R - d2), .slice (some ⟨gx, d3, none⟩) m (R - d3), .bool bx] #[.slice (some ⟨gy, m, none⟩) m (R - m), .slice (some ⟨gy, d2, none⟩) m (R - d2), .slice (some ⟨gy, d3, none⟩) m (R - d3), .bool by'] 128 137 MX MY Z2 := by
      refine ⟨block_below CX.out belC, ?_, ?_, (BMX.below' bel6).below' bel7, BMY.below' bel7, CB.out.below' belC⟩
      · rw [hkx, hw7, Below.heap_alloc _ _ _ (by simp)]; exact heap_alloc_new ..
      · rw [hkx, hw7, show w6.heap.size + 1 = (w6.alloc (.cells #[.slice (some ⟨gx, m, none⟩) m (R - m), .slice (some ⟨gx, d2, none⟩) m (R - d2), .slice (some ⟨gx, d3, none⟩) m (R - d3), .bool bx] 137)).heap.size by simp]; exact heap_alloc_new ..
    have hN : m + m = m + m := rfl
    have HF1 := full_seg H T gx gy m m R n MX MY w7 _ _ E7.2.2.2.1 E7.2.2.2.2.1 QX.limbs QY.limbs (by omega) (by omega) (by omega) (by omega) (by omega) (by omega) QX.v1 QY.v1 HII.out (by omega)
    unfold way at HF1
    obtain ⟨hq0, hq1'⟩ := box2 E7.1
    obtain ⟨hx0, _, _, _⟩ := box4 E7.2.1
    obtain ⟨hy0, _, _, _⟩ := box4 E7.2.2.1
    have HE7 := hide E7
    have HQX := hide QX
    have HQY := hide QY
    have HBEL := hide belC
    have HW7 := hide hw7
    have HKX := hide hkx
    have HBY := hide hby
    rw [hkx] at hx0 hy0
    rw [hw7] at hq0 hq1' hx0 hy0
    obtain ⟨N, hNm, hN1, hN2⟩ : ∃ N : Nat, m + m = N ∧ N ≤ 2 * m ∧ 2 * m ≤ N := ⟨_, rfl, by omega, by omega⟩
    have HNM := hide hNm
    have hNb : N ≤ 1125899906842624 := by omega
    rw [hNm] at HF1
    have hszC := belC.size
    have hkx7 : kx + 1 < w7.heap.size := lt_of_block HE7.out.2.2.1
    have hkxb : w.heap.size < kx := by have := HKX.out; have := bel5.size; have := bel6.size; omega
    clear E7 QX QY belC bel5 bel6 bel7 BMX BMY hw7 hkx hby HD5 hgx hgy HV2 em' eR' hN hNm hk0 hk1
    go_wp2_with fail
    rw [← HW7.out, ← HKX.out]
    clear hq0 hq1' hx0 hy0
    refine HF1.mono ?_
    rintro e w8 ⟨g1, V1, rfl, hg1, lV1, LV1, BV1, vV1, bel8⟩
    have E8 := HE7.out.below bel8
    have HF2 := full_seg H T gx gy d3 m R n MX MY w8 _ _ E8.2.2.2.1 E8.2.2.2.2.1 HQX.out.limbs HQY.out.limbs (by omega) (by omega) (by omega) (by omega) (by omega) (by omega) HQX.out.v3 HQY.out.v3 HII.out (by omega)
    unfold way at HF2
    rw [HNM.out] at HF2
    obtain ⟨hq0, hq1'⟩ := box2 E8.1
    obtain ⟨_, _, hx2, _⟩ := box4 E8.2.1
    obtain ⟨_, _, hy2, _⟩ := box4 E8.2.2.1
    have HE8 := hide E8
    have hlt1 := BV1.lt
    have hsz8 := bel8.size
    have HBEL8 := hide (HBEL.out.trans (bel8.mono HBEL.out.size))
    have HV1 : Hid (Hold w8 g1 N _) := hide ⟨V1, BV1, LV1, lV1, vV1⟩
    clear E8 bel8 BV1 LV1 lV1 vV1 V1 HF1 HE7 HBEL
    go_wp2_with fail
    refine HF2.mono ?_
    rintro e w9 ⟨g2, V2, rfl, hg2, lV2, LV2, BV2, vV2, bel9⟩
    have E9 := HE8.out.below bel9
    have HF3 := full_seg H T gx gy d2 m R n MX MY w9 _ _ E9.2.2.2.1 E9.2.2.2.2.1 HQX.out.limbs HQY.out.limbs (by omega) (by omega) (by omega) (by omega) (by omega) (by omega) HQX.out.v2 HQY.out.v2 HII.out (by omega)
    unfold way at HF3
    rw [HNM.out] at HF3
    clear hq0 hq1' hx2 hy2
    obtain ⟨hq0, hq1'⟩ := box2 E9.1
    obtain ⟨_, hx1, _, _⟩ := box4 E9.2.1
    obtain ⟨_, hy1, _, _⟩ := box4 E9.2.2.1
    have HE9 := hide E9
    have hlt2 := BV2.lt
    have hsz9 := bel9.size
    have HBEL9 := hide (HBEL8.out.trans (bel9.mono HBEL8.out.size))
    have HV1' := hide (HV1.out.fr (Fr.of_below (bz := bz) bel9) (by omega))
    have HV2 : Hid (Hold w9 g2 N _) := hide ⟨V2, BV2, LV2, lV2, vV2⟩
    clear E9 bel9 BV2 LV2 lV2 vV2 V2 HF2 HE8 HBEL8 HV1
    go_wp2_with fail
    refine HF3.mono ?_
    rintro e w10 ⟨g3, V3, rfl, hg3, lV3, LV3, BV3, vV3, bel10⟩
    have E10 := HE9.out.below bel10
    have hlt3 := BV3.lt
    have HS0 := St3.mk (CF.out.trans (Fr.of_below (HBEL9.out.trans (bel10.mono HBEL9.out.size)))) E10.2.2.2.2.2 CL.out hbz (by omega) (by omega) (by omega) (by omega) (by omega) (by omega) (HV1'.out.fr (Fr.of_below (bz := bz) bel10) (by omega)) (HV2.out.fr (Fr.of_below (bz := bz) bel10) (by omega)) (⟨V3, BV3, LV3, lV3, vV3⟩ : Hold w10 g3 N _) (Nat.le_refl w10.heap.size) (fun _ _ _ _ _ _ => rfl)
    have T1 := toom_one (val (X.take s)) (val ((X.drop s).take s)) (val (X.drop d)) (val (Y.take s)) (val ((Y.drop s).take s)) (val (Y.drop d))
    have T2 := toom_two (val (X.take s)) (val ((X.drop s).take s)) (val (X.drop d)) (val (Y.take s)) (val ((Y.drop s).take s)) (val (Y.drop d))
    have T3 := toom_less (val (X.take s)) (val ((X.drop s).take s)) (val (X.drop d)) (val (Y.take s)) (val ((Y.drop s).take s)) (val (Y.drop d)) _ _ rfl rfl
    rw [HBX.out, HBY.out] at T3
    have FT := toom_fit (val (X.take s) + val ((X.drop s).take s) + val (X.drop d)) (val (Y.take s) + val ((Y.drop s).take s) + val (Y.drop d)) s m (thirds_lt mX s d (by omega) ⟨by omega, by omega⟩ (by omega)) (thirds_lt mY s d (by omega) ⟨by omega, by omega⟩ (by omega)) HEM.out.1
    rw [HNM.out] at FT
    have TT := toom_total (val (X.take s)) (val ((X.drop s).take s)) (val (X.drop d)) (val (Y.take s)) (val ((Y.drop s).take s)) (val (Y.drop d)) (18446744073709551616 ^ s)
    rw [← val_thirds X s d (by omega) (by omega) (by omega), ← val_thirds Y s d (by omega) (by omega) (by omega), ← Nat.pow_add, ← Nat.pow_add, ← Nat.pow_add, show s + s + (s + s) = q by omega, show s + s + s = r by omega, show s + s = d by omega] at TT
    obtain ⟨c0, k0⟩ : ∃ c, val (X.take s) * val (Y.take s) = c := ⟨_, rfl⟩
    obtain ⟨c1', k1⟩ : ∃ c, val (X.take s) * val ((Y.drop s).take s) + val ((X.drop s).take s) * val (Y.take s) = c := ⟨_, rfl⟩
    obtain ⟨c2', k2⟩ : ∃ c, val (X.take s) * val (Y.drop d) + val ((X.drop s).take s) * val ((Y.drop s).take s) + val (X.drop d) * val (Y.take s) = c := ⟨_, rfl⟩
    obtain ⟨c3, k3⟩ : ∃ c, val ((X.drop s).take s) * val (Y.drop d) + val (X.drop d) * val ((Y.drop s).take s) = c := ⟨_, rfl⟩
    obtain ⟨c4, k4⟩ : ∃ c, val (X.drop d) * val (Y.drop d) = c := ⟨_, rfl⟩
    rw [k0, k1, k2, k3, k4] at T1 T2 T3 TT
    rw [k0] at CS0
    rw [k0, k4] at CT
    rw [k4] at CS2
    clear k0 k1 k2 k3 k4
    obtain ⟨v1, e1⟩ : ∃ v, (val (X.take s) + val ((X.drop s).take s) + val (X.drop d)) * (val (Y.take s) + val ((Y.drop s).take s) + val (Y.drop d)) = v := ⟨_, rfl⟩
    obtain ⟨v2, e2⟩ : ∃ v, (if val (X.take s) + val (X.drop d) < val ((X.drop s).take s) then val ((X.drop s).take s) - (val (X.take s) + val (X.drop d)) else val (X.take s) + val (X.drop d) - val ((X.drop s).take s)) * (if val (Y.take s) + val (Y.drop d) < val ((Y.drop s).take s) then val ((Y.drop s).take s) - (val (Y.take s) + val (Y.drop d)) else val (Y.take s) + val (Y.drop d) - val ((Y.drop s).take s)) = v := ⟨_, rfl⟩
    obtain ⟨v3, e3⟩ : ∃ v, (val (X.take s) + val ((X.drop s).take s) * 2 + val (X.drop d) * 4) * (val (Y.take s) + val ((Y.drop s).take s) * 2 + val (Y.drop d) * 4) = v := ⟨_, rfl⟩
    rw [e1] at T1 T3 FT
    rw [e2] at T3
    rw [e3] at T2
    rw [e1, e2, e3] at HS0
    clear e1 e2 e3
    have hXY : val X * val Y < 18446744073709551616 ^ n := by
      rw [← HN.out, Nat.pow_add]; exact Nat.mul_lt_mul'' (val_lt mX) (val_lt mY)
    have TOT := hide (And.intro hXY (And.intro (show c0 + 18446744073709551616 ^ q * c4 + 18446744073709551616 ^ s * c1' ≤ val X * val Y by omega) (And.intro (show c0 + 18446744073709551616 ^ q * c4 + 18446744073709551616 ^ s * c1' + 18446744073709551616 ^ d * c2' ≤ val X * val Y by omega) TT.symm)))
    have hv3 := hide T2
    have HFT := hide FT
    have HE10 := hide E10
    have HT1 := hide T1
    clear hXY TT T1 T2 FT E10 bel10 BV3 LV3 lV3 vV3 V3 HF3 HE9 HBEL9 HV1' HV2 hq0 hq1' hx1 hy1 HQX HQY HBX HBY HEM HNM HW7 HKX mX mY CB CF CX CL CA CA2
    by_cases hsame : bx = by'
    · subst hsame
      rw [if_pos rfl] at T3
      obtain ⟨kv, hkv⟩ : ∃ k, k = c0 + c2' + c4 := ⟨_, rfl⟩
      obtain ⟨ov, hov⟩ : ∃ k, k = c1' + c3 := ⟨_, rfl⟩
      have HKV := hide (show v2 + v1 = 2 * kv by omega)
      have HOV := hide (show v1 = ov + kv by have := HT1.out; omega)
      have HDE := hide (And.intro hkv hov)
      clear hkv hov T3
      obtain ⟨EL, hEL, vEL⟩ := HS0.ho.arg hNb
      have HC := HS0.plus hNb (v2 + v1) hEL (aside_of HS0.oe _ _) (by rw [vEL]) (by have := HKV.out; have := HOV.out; have := HFT.out; omega)
      have HS := hide HS0
      clear hEL vEL EL HS0
      go_wp2_with fail
      refine HC.mono ?_
      rintro e wp1 ⟨rfl, h⟩
      clear HS HC
      have HS := hide h
      have HC := h.half hNb kv HKV.out
      clear h
      go_wp2_with fail
      refine HC.mono ?_
      rintro e wp2 ⟨rfl, h⟩
      clear HS HC
      have HS := hide h
      obtain ⟨EL, hEL, vEL⟩ := h.he.arg hNb
      have HC := h.oe'.minus hNb ov hEL (aside_of (Ne.symm h.oe) _ _) (by rw [vEL]; exact HOV.out)
      clear h hEL vEL EL
      go_wp2_with fail
      refine HC.mono ?_
      rintro e wp3 ⟨rfl, h⟩
      clear HS HC
      obtain ⟨_, _, _, hx3⟩ := box4 ((h.keep kx (by omega) (by omega) (by omega) (by omega) (by omega)).trans HE10.out.2.1)
      obtain ⟨_, _, _, hy3⟩ := box4 ((h.keep (kx + 1) (by omega) (by omega) (by omega) (by omega) (by omega)).trans HE10.out.2.2.1)
      have HS := hide h.oe'
      rw [HDE.out.1, HDE.out.2] at HS
      clear h
      have h := HS.out
      have HC := h.minus hNb (c2' + c4) (h.blk.seg_arg h.lz zo d cap (by omega) (by omega) (by omega) (by omega)) (aside_of (by have := h.lt; have := h.ne; omega) _ _) (by rw [show val (seg Z2 zo d) = c0 from CS0.out]; omega)
      clear h
      go_wp2_with fail
      refine HC.mono ?_
      rintro e wa ⟨rfl, h⟩
      clear HS HC
      have HS := hide h
      have HC := h.minus hNb c2' (h.blk.seg_arg h.lz zh (n - q) (cap - q) (by rcases HZH.out with h | h <;> omega) (by omega) (by omega) (by omega)) (aside_of (by have := h.lt; have := h.ne; omega) _ _) (by rw [show val (seg Z2 zh (n - q)) = c4 from CS2.out])
      clear h
      go_wp2_with fail
      refine HC.mono ?_
      rintro e wb ⟨rfl, h⟩
      clear HS HC
      have HS := hide h
      have HC := h.et'.minus hNb (2 * c1' + 4 * c2' + 8 * c3 + 16 * c4) (h.blk.seg_arg h.lz zo d cap (by omega) (by omega) (by omega) (by omega)) (aside_of (by have := h.lt; have := h.nt; omega) _ _) (by rw [show val (seg Z2 zo d) = c0 from CS0.out, hv3.out]; omega)
      clear h
      go_wp2_with fail
      refine HC.mono ?_
      rintro e wc ⟨rfl, h⟩
      clear HS HC
      have HS := hide h
      have HC := h.half hNb (c1' + 2 * c2' + 4 * c3 + 8 * c4) (by omega)
      clear h
      go_wp2_with fail
      refine HC.mono ?_
      rintro e wd' ⟨rfl, h⟩
      clear HS HC
      have HS := hide h
      obtain ⟨EL, hEL, vEL⟩ := h.ht.arg hNb
      have HC := h.minusTimes hNb (c1' + 4 * c3 + 8 * c4) 2 hEL (aside_of (Ne.symm h.et) _ _) (by rw [vEL]; omega) (by omega) (by omega)
      rw [show ((2 : Nat) : Int) = 2 from rfl] at HC
      clear h hEL vEL EL
      go_wp2_with fail
      refine HC.mono ?_
      rintro e we ⟨rfl, h⟩
      clear HS HC
      have HS := hide h
      have HC := h.minusTimes hNb (c1' + 4 * c3) 8 (h.blk.seg_arg h.lz zh (n - q) (cap - q) (by rcases HZH.out with h | h <;> omega) (by omega) (by omega) (by omega)) (aside_of (by have := h.lt; have := h.ne; omega) _ _) (by rw [show val (seg Z2 zh (n - q)) = c4 from CS2.out]; omega) (by omega) (by omega)
      rw [show ((8 : Nat) : Int) = 8 from rfl] at HC
      clear h
      go_wp2_with fail
      refine HC.mono ?_
      rintro e wf ⟨rfl, h⟩
      clear HS HC
      have HS := hide h
      obtain ⟨EL, hEL, vEL⟩ := h.ho.arg hNb
      have HC := h.minus hNb (3 * c3) hEL (aside_of h.oe _ _) (by rw [vEL]; omega)
      clear h hEL vEL EL
      go_wp2_with fail
      refine HC.mono ?_
      rintro e wg ⟨rfl, h⟩
      clear HS HC
      have HS := hide h
      have HC := h.third hNb c3 rfl
      clear h
      go_wp2_with fail
      refine HC.mono ?_
      rintro e wh ⟨rfl, h⟩
      clear HS HC
      have HS := hide h
      obtain ⟨EL, hEL, vEL⟩ := h.he.arg hNb
      have HC := h.oe'.minus hNb c1' hEL (aside_of (Ne.symm h.oe) _ _) (by rw [vEL])
      clear h hEL vEL EL
      go_wp2_with fail
      refine HC.mono ?_
      rintro e wi ⟨rfl, h⟩
      clear HS HC
      have HS := hide h
      obtain ⟨EL, hEL, vEL⟩ := h.he.arg hNb
      have HC := h.add zo n s (cap - s) hEL (aside_of (by have := h.lt; have := h.ne; omega) _ _) (by omega) (by omega) (by omega) (by omega) _ (by rw [vEL, CT.out]; exact TOT.out.2.1) TOT.out.1
      rw [vEL, CT.out] at HC
      clear h hEL vEL EL
      go_wp2_with fail
      refine HC.mono ?_
      rintro e wj ⟨rfl, ZJ, h, OJ, SJ⟩
      have lJ := OJ.len
      clear HS HC
      have HS := hide h
      have HSJ := hide SJ
      have HOJ := hide OJ
      obtain ⟨EL, hEL, vEL⟩ := h.ht.arg hNb
      have HC := h.add zo n d (cap - d) hEL (aside_of (by have := h.lt; have := h.nt; omega) _ _) (by omega) (by omega) (by omega) (by omega) _ (by rw [vEL, SJ]; exact TOT.out.2.2.1) TOT.out.1
      rw [vEL, SJ] at HC
      clear h hEL vEL EL OJ SJ
      go_wp2_with fail
      refine HC.mono ?_
      rintro e wk' ⟨rfl, ZK, h, OK', SK⟩
      have lK := OK'.len
      clear HS HC HSJ
      have HS := hide h
      have HSK := hide SK
      have HOK := hide (HOJ.out.trans OK')
      obtain ⟨EL, hEL, vEL⟩ := h.ho.arg hNb
      have HC := h.add zo n r (cap - r) hEL (aside_of (by have := h.lt; have := h.no; omega) _ _) (by omega) (by omega) (by omega) (by omega) _ (by rw [vEL, SK]; exact Nat.le_of_eq TOT.out.2.2.2) TOT.out.1
      rw [vEL, SK] at HC
      clear h hEL vEL EL OK' SK
      go_wp2_with fail
      refine HC.mono ?_
      rintro e wl ⟨rfl, ZL, h, OL, SL⟩
      have HD := hide (show IntoDone bz zo n Z w (val X * val Y) (.returned (.tuple #[])) wl from ⟨rfl, ZL, CO.out.trans (HOK.out.trans OL), h.lz, h.blk, h.fr, by rw [SL, TOT.out.2.2.2]⟩)
      clear h OL SL HS HC HSK HOK
      go_wp2
      go_end0
      exact HD.out
    · rw [if_neg hsame] at T3
      obtain ⟨kv, hkv⟩ : ∃ k, k = c1' + c3 := ⟨_, rfl⟩
      obtain ⟨ov, hov⟩ : ∃ k, k = c0 + c2' + c4 := ⟨_, rfl⟩
      have HKV := hide (show v2 + v1 = 2 * kv by omega)
      have HOV := hide (show v1 = ov + kv by have := HT1.out; omega)
      have HDE := hide (And.intro hkv hov)
      have hs1' : (bx == by') = false := by simpa using hsame
      have hs2' : decide (bx = by') = false := by simpa using hsame
      clear hkv hov T3
      obtain ⟨EL, hEL, vEL⟩ := HS0.ho.arg hNb
      have HC := HS0.plus hNb (v2 + v1) hEL (aside_of HS0.oe _ _) (by rw [vEL]) (by have := HKV.out; have := HOV.out; have := HFT.out; omega)
      have HS := hide HS0
      clear hEL vEL EL HS0
      go_wp2_with fail
      refine HC.mono ?_
      rintro e wp1 ⟨rfl, h⟩
      clear HS HC
      have HS := hide h
      have HC := h.half hNb kv HKV.out
      clear h
      go_wp2_with fail
      refine HC.mono ?_
      rintro e wp2 ⟨rfl, h⟩
      clear HS HC
      have HS := hide h
      obtain ⟨EL, hEL, vEL⟩ := h.he.arg hNb
      have HC := h.oe'.minus hNb ov hEL (aside_of (Ne.symm h.oe) _ _) (by rw [vEL]; exact HOV.out)
      clear h hEL vEL EL
      go_wp2_with fail
      refine HC.mono ?_
      rintro e wp3 ⟨rfl, h⟩
      clear HS HC
      obtain ⟨_, _, _, hx3⟩ := box4 ((h.keep kx (by omega) (by omega) (by omega) (by omega) (by omega)).trans HE10.out.2.1)
      obtain ⟨_, _, _, hy3⟩ := box4 ((h.keep (kx + 1) (by omega) (by omega) (by omega) (by omega) (by omega)).trans HE10.out.2.2.1)
      have HS := hide h
      rw [HDE.out.1, HDE.out.2] at HS
      clear h
      have h := HS.out
      have HC := h.minus hNb (c2' + c4) (h.blk.seg_arg h.lz zo d cap (by omega) (by omega) (by omega) (by omega)) (aside_of (by have := h.lt; have := h.ne; omega) _ _) (by rw [show val (seg Z2 zo d) = c0 from CS0.out]; omega)
      clear h
      go_wp2_with fail
      refine HC.mono ?_
      rintro e wa ⟨rfl, h⟩
      clear HS HC
      have HS := hide h
      have HC := h.minus hNb c2' (h.blk.seg_arg h.lz zh (n - q) (cap - q) (by rcases HZH.out with h | h <;> omega) (by omega) (by omega) (by omega)) (aside_of (by have := h.lt; have := h.ne; omega) _ _) (by rw [show val (seg Z2 zh (n - q)) = c4 from CS2.out])
      clear h
      go_wp2_with fail
      refine HC.mono ?_
      rintro e wb ⟨rfl, h⟩
      clear HS HC
      have HS := hide h
      have HC := h.et'.minus hNb (2 * c1' + 4 * c2' + 8 * c3 + 16 * c4) (h.blk.seg_arg h.lz zo d cap (by omega) (by omega) (by omega) (by omega)) (aside_of (by have := h.lt; have := h.nt; omega) _ _) (by rw [show val (seg Z2 zo d) = c0 from CS0.out, hv3.out]; omega)
      clear h
      go_wp2_with fail
      refine HC.mono ?_
      rintro e wc ⟨rfl, h⟩
      clear HS HC
      have HS := hide h
      have HC := h.half hNb (c1' + 2 * c2' + 4 * c3 + 8 * c4) (by omega)
      clear h
      go_wp2_with fail
      refine HC.mono ?_
      rintro e wd' ⟨rfl, h⟩
      clear HS HC
      have HS := hide h
      obtain ⟨EL, hEL, vEL⟩ := h.ht.arg hNb
      have HC := h.minusTimes hNb (c1' + 4 * c3 + 8 * c4) 2 hEL (aside_of (Ne.symm h.et) _ _) (by rw [vEL]; omega) (by omega) (by omega)
      rw [show ((2 : Nat) : Int) = 2 from rfl] at HC
      clear h hEL vEL EL
      go_wp2_with fail
      refine HC.mono ?_
      rintro e we ⟨rfl, h⟩
      clear HS HC
      have HS := hide h
      have HC := h.minusTimes hNb (c1' + 4 * c3) 8 (h.blk.seg_arg h.lz zh (n - q) (cap - q) (by rcases HZH.out with h | h <;> omega) (by omega) (by omega) (by omega)) (aside_of (by have := h.lt; have := h.ne; omega) _ _) (by rw [show val (seg Z2 zh (n - q)) = c4 from CS2.out]; omega) (by omega) (by omega)
      rw [show ((8 : Nat) : Int) = 8 from rfl] at HC
      clear h
      go_wp2_with fail
      refine HC.mono ?_
      rintro e wf ⟨rfl, h⟩
      clear HS HC
      have HS := hide h
      obtain ⟨EL, hEL, vEL⟩ := h.ho.arg hNb
      have HC := h.minus hNb (3 * c3) hEL (aside_of h.oe _ _) (by rw [vEL]; omega)
      clear h hEL vEL EL
      go_wp2_with fail
      refine HC.mono ?_
      rintro e wg ⟨rfl, h⟩
      clear HS HC
      have HS := hide h
      have HC := h.third hNb c3 rfl
      clear h
      go_wp2_with fail
      refine HC.mono ?_
      rintro e wh ⟨rfl, h⟩
      clear HS HC
      have HS := hide h
      obtain ⟨EL, hEL, vEL⟩ := h.he.arg hNb
      have HC := h.oe'.minus hNb c1' hEL (aside_of (Ne.symm h.oe) _ _) (by rw [vEL])
      clear h hEL vEL EL
      go_wp2_with fail
      refine HC.mono ?_
      rintro e wi ⟨rfl, h⟩
      clear HS HC
      have HS := hide h
      obtain ⟨EL, hEL, vEL⟩ := h.he.arg hNb
      have HC := h.add zo n s (cap - s) hEL (aside_of (by have := h.lt; have := h.ne; omega) _ _) (by omega) (by omega) (by omega) (by omega) _ (by rw [vEL, CT.out]; exact TOT.out.2.1) TOT.out.1
      rw [vEL, CT.out] at HC
      clear h hEL vEL EL
      go_wp2_with fail
      refine HC.mono ?_
      rintro e wj ⟨rfl, ZJ, h, OJ, SJ⟩
      have lJ := OJ.len
      clear HS HC
      have HS := hide h
      have HSJ := hide SJ
      have HOJ := hide OJ
      obtain ⟨EL, hEL, vEL⟩ := h.ht.arg hNb
      have HC := h.add zo n d (cap - d) hEL (aside_of (by have := h.lt; have := h.nt; omega) _ _) (by omega) (by omega) (by omega) (by omega) _ (by rw [vEL, SJ]; exact TOT.out.2.2.1) TOT.out.1
      rw [vEL, SJ] at HC
      clear h hEL vEL EL OJ SJ
      go_wp2_with fail
      refine HC.mono ?_
      rintro e wk' ⟨rfl, ZK, h, OK', SK⟩
      have lK := OK'.len
      clear HS HC HSJ
      have HS := hide h
      have HSK := hide SK
      have HOK := hide (HOJ.out.trans OK')
      obtain ⟨EL, hEL, vEL⟩ := h.ho.arg hNb
      have HC := h.add zo n r (cap - r) hEL (aside_of (by have := h.lt; have := h.no; omega) _ _) (by omega) (by omega) (by omega) (by omega) _ (by rw [vEL, SK]; exact Nat.le_of_eq TOT.out.2.2.2) TOT.out.1
      rw [vEL, SK] at HC
      clear h hEL vEL EL OK' SK
      go_wp2_with fail
      refine HC.mono ?_
      rintro e wl ⟨rfl, ZL, h, OL, SL⟩
      have HD := hide (show IntoDone bz zo n Z w (val X * val Y) (.returned (.tuple #[])) wl from ⟨rfl, ZL, CO.out.trans (HOK.out.trans OL), h.lz, h.blk, h.fr, by rw [SL, TOT.out.2.2.2]⟩)
      clear h OL SL HS HC HSK HOK
      go_wp2
      go_end0
      exact HD.out

end Go.Proofs.YtppblbhkghjphaaGreatDoor
