/- Lists of square roots: plain facts. -/
import Derived.Test.YtlphlcmlkibmjacGreatDoorQA
import Derived.Test.YtlphlcmlkibmjacGreatDoorQB
import Derived.Test.YtlphlcmlkibmjacGreatDoorQR
import Derived.Test.YtlphlcmlkibmjacGreatDoorQG
import Derived.Maps.AppendAt
import Derived.Handy
namespace Go.Proofs.YtlphlcmlkibmjacGreatDoor
namespace Lm

/-- The first k numbers whose squares leave the rest r. -/
def rtl (m r : Nat) : Nat → List Nat
  | 0 => []
  | k + 1 => if k * k % m = r then rtl m r k ++ [k] else rtl m r k

theorem rtl_le (m r : Nat) : ∀ k, (rtl m r k).length ≤ k
  | 0 => by simp [rtl]
  | k + 1 => by
    have := rtl_le m r k
    unfold rtl
    split
    · simp; omega
    · omega

theorem rtl_mem (m r : Nat) : ∀ k x, x ∈ rtl m r k ↔ x < k ∧ x * x % m = r
  | 0, x => by simp [rtl]
  | k + 1, x => by
    have ih := rtl_mem m r k x
    unfold rtl
    split
    · rename_i h
      rw [List.mem_append, ih, List.mem_singleton]
      constructor
      · rintro (⟨h1, h2⟩ | rfl)
        · exact ⟨by omega, h2⟩
        · exact ⟨by omega, h⟩
      · rintro ⟨h1, h2⟩
        by_cases e : x = k
        · exact .inr e
        · exact .inl ⟨by omega, h2⟩
    · rename_i h
      rw [ih]
      constructor
      · rintro ⟨h1, h2⟩; exact ⟨by omega, h2⟩
      · rintro ⟨h1, h2⟩
        refine ⟨?_, h2⟩
        by_cases e : x = k
        · subst e; exact absurd h2 h
        · omega

theorem rtl_sorted (m r : Nat) : ∀ k, (rtl m r k).Pairwise (· < ·)
  | 0 => by simp [rtl]
  | k + 1 => by
    have ih := rtl_sorted m r k
    unfold rtl
    split
    · rw [List.pairwise_append]
      refine ⟨ih, by simp, ?_⟩
      intro a ha b hb
      rw [List.mem_singleton] at hb
      subst hb
      exact ((rtl_mem m r _ a).1 ha).1
    · exact ih

/-- Two rising lists with the same members are one. -/
theorem sorted_ext : ∀ {A B : List Nat}, A.Pairwise (· < ·) → B.Pairwise (· < ·) → (∀ x, x ∈ A ↔ x ∈ B) → A = B
  | [], [], _, _, _ => rfl
  | [], b :: B, _, _, h => by have := (h b).2 (by simp); simp at this
  | a :: A, [], _, _, h => by have := (h a).1 (by simp); simp at this
  | a :: A, b :: B, hA, hB, h => by
    rw [List.pairwise_cons] at hA hB
    have e : a = b := by
      have h1 := (h a).1 (by simp)
      have h2 := (h b).2 (by simp)
      rcases List.mem_cons.1 h1 with e | e
      · exact e
      · rcases List.mem_cons.1 h2 with e2 | e2
        · exact e2.symm
        · have := hB.1 a e
          have := hA.1 b e2
          omega
    subst e
    congr 1
    refine sorted_ext hA.2 hB.2 fun x => ?_
    have hx := h x
    rw [List.mem_cons, List.mem_cons] at hx
    constructor
    · intro hm
      rcases hx.1 (.inr hm) with e | e
      · have := hA.1 x hm; omega
      · exact e
    · intro hm
      rcases hx.2 (.inr hm) with e | e
      · have := hB.1 x hm; omega
      · exact e

/-- Turned round, and each by its opposite. -/
theorem opp_list {m : Nat} {T : List Nat} (hT : T.Pairwise (· < ·)) (hb : ∀ x, x ∈ T → 0 < x ∧ x < m) (hs : ∀ x, x ∈ T → m - x ∈ T) : (T.reverse.map fun x => m - x) = T := by
  refine sorted_ext ?_ hT fun x => ?_
  · rw [List.pairwise_map, List.pairwise_reverse]
    refine List.Pairwise.imp_of_mem ?_ hT
    intro a b ha hb' hab
    have := hb a ha
    have := hb b hb'
    omega
  · rw [List.mem_map]
    constructor
    · rintro ⟨y, hy, rfl⟩
      exact hs y (List.mem_reverse.1 hy)
    · intro hx
      refine ⟨m - x, List.mem_reverse.2 (hs x hx), ?_⟩
      have := hb x hx
      omega

theorem sq_opp {m x : Nat} (h : x ≤ m) : (m - x) * (m - x) % m = x * x % m := by
  obtain ⟨d, rfl⟩ : ∃ d, m = x + d := ⟨m - x, by omega⟩
  rw [Nat.add_sub_cancel_left]
  have e1 : d * d + x * (x + d) = x * x + d * (x + d) := by grind
  have h1 : (d * d + x * (x + d)) % (x + d) = d * d % (x + d) := Nat.add_mul_mod_self_right _ _ _
  have h2 : (x * x + d * (x + d)) % (x + d) = x * x % (x + d) := Nat.add_mul_mod_self_right _ _ _
  rw [← h1, ← h2, e1]

/-- The opposite stands as far from the end, or one further, where nought is a root. -/
theorem opp_get {m r : Nat} (i : Nat) (hi : i < (rtl m r m).length) (h0 : 0 < (rtl m r m).getD i 0) :
    ∃ j, j < (rtl m r m).length ∧ (rtl m r m).getD j 0 = m - (rtl m r m).getD i 0 ∧ (if (rtl m r m).getD 0 0 = 0 then j + i = (rtl m r m).length else j + i + 1 = (rtl m r m).length) := by
  have hsort := rtl_sorted m r m
  have hmem := rtl_mem m r m
  generalize hS : rtl m r m = S at *
  have hgi : ∀ (L : List Nat) k (h : k < L.length), L.getD k 0 = L[k] := fun L k h => by simp [List.getD, h]
  have main : ∀ T : List Nat, T.Pairwise (· < ·) → (∀ x, x ∈ T → 0 < x ∧ x < m) → (∀ x, x ∈ T → m - x ∈ T) → ∀ k, k < T.length → ∃ j, j < T.length ∧ T.getD j 0 = m - T.getD k 0 ∧ j + k + 1 = T.length := by
    intro T h1 h2 h3 k hk
    have e := opp_list h1 h2 h3
    refine ⟨T.length - 1 - k, by omega, ?_, by omega⟩
    rw [hgi T k hk, hgi T _ (by omega)]
    have h4 : (T.reverse.map fun x => m - x)[T.length - 1 - k]'(by simp; omega) = T[T.length - 1 - k]'(by omega) := by
      simp only [e]
    rw [← h4]
    simp only [List.getElem_map, List.getElem_reverse]
    congr 2
    omega
  match S, hsort, hmem, hi, h0 with
  | [], _, _, hi, _ => simp at hi
  | a :: T, hsort, hmem, hi, h0 =>
    rw [List.pairwise_cons] at hsort
    by_cases ha : a = 0
    · subst ha
      have hT2 : ∀ x, x ∈ T → 0 < x ∧ x < m := fun x hx => ⟨hsort.1 x hx, ((hmem x).1 (by simp [hx])).1⟩
      have hT3 : ∀ x, x ∈ T → m - x ∈ T := by
        intro x hx
        have hb := hT2 x hx
        have h1 := (hmem (m - x)).2 ⟨by omega, by rw [sq_opp (by omega)]; exact ((hmem x).1 (by simp [hx])).2⟩
        rcases List.mem_cons.1 h1 with e | e
        · omega
        · exact e
      cases i with
      | zero => simp at h0
      | succ k =>
        obtain ⟨j, j1, j2, j3⟩ := main T hsort.2 hT2 hT3 k (by simpa using hi)
        refine ⟨j + 1, by simp; omega, ?_, ?_⟩
        · simpa [List.getD] using j2
        · simp [List.getD]; omega
    · have hT2 : ∀ x, x ∈ a :: T → 0 < x ∧ x < m := fun x hx => by
        refine ⟨?_, ((hmem x).1 hx).1⟩
        rcases List.mem_cons.1 hx with e | e
        · omega
        · have := hsort.1 x e; omega
      have hT3 : ∀ x, x ∈ a :: T → m - x ∈ a :: T := by
        intro x hx
        have hb := hT2 x hx
        exact (hmem (m - x)).2 ⟨by omega, by rw [sq_opp (by omega)]; exact ((hmem x).1 hx).2⟩
      obtain ⟨j, j1, j2, j3⟩ := main (a :: T) (List.pairwise_cons.2 hsort) hT2 hT3 i hi
      refine ⟨j, j1, j2, ?_⟩
      have : ¬ ((a :: T).getD 0 0 = 0) := by simpa [List.getD] using ha
      rw [if_neg this]
      exact j3

end Lm
end Go.Proofs.YtlphlcmlkibmjacGreatDoor

/- Lists of ints in new memory. -/
namespace Go.Proofs.YtlphlcmlkibmjacGreatDoor
open Go.RowKit
open Lm

/-- An int as a value. -/
def iv (z : Int) : Value := .int .i64 z

/-- Ints in new memory, from block 'base' on: the value owns them. -/
def IL (w : World) (base : Nat) (v : Value) (zs : List Int) : Prop := w.ownsRow base 3 1 v zs.length (zs.map iv)

theorem IL.nil (w : World) (base : Nat) : IL w base (.slice none 0 0) [] := World.ownsRow_nil _ _ _ _

theorem IL.form {w : World} {base : Nat} {v : Value} {zs : List Int} (h : IL w base v zs) : (v = .slice none 0 0 ∧ zs = []) ∨
    ∃ g cap, v = .slice (some ⟨g, 0, none⟩) zs.length cap ∧ base ≤ g ∧ g < w.heap.size ∧ zs.length ≤ cap ∧ cap ≤ 9223372036854775807 ∧ (∀ k, w.frozen? ⟨g, k, none⟩ = false) ∧ ∀ k, k < zs.length → w.cell? ⟨g, k, none⟩ = some (.int .i64 (zs.getD k 0)) := by
  have ho : w.ownsRow base 3 1 v zs.length (zs.map iv) := h
  have ho2 := ho
  obtain ⟨_, h2⟩ := ho2
  rcases h2 with ⟨h1, h2⟩ | ⟨g, cap, cur, rfl, hg, hh, hn, hcm, hs, ht⟩
  · exact .inl ⟨h1, List.length_eq_zero_iff.1 h2⟩
  · refine .inr ⟨g, cap, rfl, hg, lt_of_block hh, hn, by unfold maxLen at hcm; omega, fun k => ho.frozenAt k, fun k hk => ?_⟩
    rw [ho.cellAt k (by omega)]
    simp [hk, iv, List.getD]

theorem IL.below {w w' : World} {base : Nat} {v : Value} {zs : List Int} (h : IL w base v zs) (hb : Below w.heap.size w w') : IL w' base v zs := by
  obtain ⟨h1, h2⟩ := h
  refine ⟨h1, ?_⟩
  rcases h2 with h2 | ⟨g, cap, cur, hv, hg, hh, r⟩
  · exact .inl h2
  · exact .inr ⟨g, cap, cur, hv, hg, by rw [hb.block g (lt_of_block hh)]; exact hh, r⟩

theorem IL.base {w : World} {base base' : Nat} {v : Value} {zs : List Int} (h : IL w base v zs) (hb : base' ≤ base) : IL w base' v zs := by
  obtain ⟨h1, h2⟩ := h
  refine ⟨h1, ?_⟩
  rcases h2 with h2 | ⟨g, cap, cur, hv, hg, r⟩
  · exact .inl h2
  · exact .inr ⟨g, cap, cur, hv, Nat.le_trans hb hg, r⟩

theorem IL.stored {w : World} {base g cap : Nat} {zs : List Int} (h : IL w base (.slice (some ⟨g, 0, none⟩) zs.length cap) zs) (j : Nat) (z : Int) : IL (w.setCell ⟨g, j, none⟩ (.int .i64 z)) base (.slice (some ⟨g, 0, none⟩) (zs.set j z).length cap) (zs.set j z) := by
  have := (World.ownsRow.stored (show w.ownsRow base 3 1 _ zs.length (zs.map iv) from h) j (.int .i64 z)).1
  unfold IL
  rw [List.length_set, List.map_set]
  exact this

theorem IL.apart {w : World} {base : Nat} {v : Value} {zs : List Int} (h : IL w base v zs) (g o : Nat) (u : Value) (hne : v.ownBlock ≠ some g) : IL (w.setCell ⟨g, o, none⟩ u) base v zs :=
  ownsRow_setCell_other h hne _

theorem IL.top {w : World} {base : Nat} {v : Value} {zs : List Int} (h : IL w base v zs) : ∀ g, v.ownBlock = some g → base ≤ g ∧ g < w.heap.size := fun g hg => World.ownsRow.lt (show w.ownsRow base 3 1 v zs.length (zs.map iv) from h) g hg

theorem Tryz.infoI : (Tryz.prog.info? 3).map (fun i => (i.zero, i.size, i.bytes)) = some (some (.int .i64 0), 1, 8) := by kernel_rfl

theorem news_ints {w : World} (l : List Int) (j : Nat) (u : Value) (hj : (l.map iv)[j]? = some u) : (w.alloc (.cells (l.map iv).toArray 3)).cell? ((⟨w.heap.size, 0, none⟩ : Addr).add j) = some u := by
  have e : (⟨w.heap.size, 0, none⟩ : Addr).add j = ⟨w.heap.size, j, none⟩ := by unfold Addr.add; split <;> simp_all
  rw [e, World.cell?_alloc_new]
  simpa using hj

theorem iv_oneCell (zs : List Int) : ∀ u ∈ zs.map iv, u.oneCell' = true := by
  intro u hu
  obtain ⟨z, _, rfl⟩ := List.mem_map.1 hu
  rfl

end Go.Proofs.YtlphlcmlkibmjacGreatDoor

/- Package roots: Roots; and the document's. -/
namespace Go.Proofs.YtlphlcmlkibmjacGreatDoor
open Go.RowKit
open Lm
attribute [local go_sem ↓] Go.wp_at_zero Go.wp_at_succ

/-- The list of roots, as ints. -/
def rti (m r k : Nat) : List Int := (rtl m r k).map fun n : Nat => (n : Int)

theorem rti_hit {m r k : Nat} (h : k * k % m = r) : rti m r (k + 1) = rti m r k ++ [(k : Int)] := by
  unfold rti
  rw [show rtl m r (k + 1) = if k * k % m = r then rtl m r k ++ [k] else rtl m r k from rfl, if_pos h]
  simp

theorem rti_miss {m r k : Nat} (h : k * k % m ≠ r) : rti m r (k + 1) = rti m r k := by
  unfold rti
  rw [show rtl m r (k + 1) = if k * k % m = r then rtl m r k ++ [k] else rtl m r k from rfl, if_neg h]

theorem rti_le (m r k : Nat) : (rti m r k).length ≤ k := by
  unfold rti
  rw [List.length_map]
  exact rtl_le m r k

theorem roots_no (va : Value) (m : Int) (w : World) (h : m < 1 ∨ 65536 < m) :
    Calls Tryz.prog 29 #[va, .int .i64 m] w fun e w' => e = .returned (.tuple #[.slice none 0 0, .int .i64 1]) ∧ w' = w := by
  by_cases h0 : m < 1
  · clear h
    go_enter Tryz.func29, Tryz.ntmps29
    go_wp2
    go_returns
    exact ⟨rfl, rfl⟩
  · have h1 : 65536 < m := by omega
    clear h
    go_enter Tryz.func29, Tryz.ntmps29
    go_wp2
    go_returns
    exact ⟨rfl, rfl⟩

set_option maxRecDepth 20000 in
set_option maxHeartbeats 1000000 in
theorem roots_any (va : Value) (X : List Nat) (m : Nat) (w : World) (hA : Arg w va X) (hT : Tab w) (hl : X.length ≤ 17592186044416) (hm0 : 0 < m) (hm : m ≤ 65536) :
    Calls Tryz.prog 29 #[va, .int .i64 m] w fun e w' => (∃ v, e = .returned (.tuple #[v, .int .i64 0]) ∧ IL w' w.heap.size v (rti m (val X % m) m)) ∧ Below w.heap.size w w' := by
  have m1 : ¬ ((m : Int) < 1) := by omega
  have m3 : ¬ ((65536 : Int) < (m : Int)) := by omega
  have m2 : decide ((65536 : Int) < (m : Int)) = false := decide_eq_false m3
  have hz : ((m : Int) == 0) = false := by rw [beq_eq_false_iff_ne]; omega
  have HR := restOf_any va X m w hA hT hl hm0 (by omega)
  obtain ⟨r, hr⟩ : ∃ r, val X % m = r := ⟨_, rfl⟩
  rw [hr] at HR ⊢
  obtain ⟨i0, hi, hz0, hz1, hz2⟩ := info_parts Tryz.infoI
  clear hA hT hr
  go_enter Tryz.func29, Tryz.ntmps29
  go_wp2_with fail
  refine HR.mono ?_
  rintro e w1 ⟨rfl, hb1⟩
  have HB1 := hide hb1
  clear HR hb1
  go_wp2
  go_loopw [7, 19] (fun v i wr => ∃ k : Nat, i = .int .i64 (k : Int) ∧ k ≤ m ∧ IL wr w.heap.size v (rti m r k) ∧ Below w.heap.size w wr) (fun _ i _ => (65537 - intOf i).toNat)
  case atStart => exact ⟨0, rfl, Nat.zero_le _, IL.nil _ _, HB1.out⟩
  case round =>
    obtain ⟨k, rfl, hk, ho, hbel⟩ := hrel
    have HB := hide hbel
    have hle := rti_le m r k
    clear HB1 hbel
    by_cases hkm : k < m
    · have i1 : (k : Int) < (m : Int) := by omega
      obtain ⟨p, hp, ep⟩ : ∃ p : Nat, k * k = p ∧ (k : Int) * (k : Int) = (p : Int) := ⟨k * k, rfl, by rw [Int.natCast_mul]⟩
      have hpl : p ≤ 4294967296 := by
        rw [← hp]
        exact Nat.le_trans (Nat.mul_le_mul (show k ≤ 65536 by omega) (show k ≤ 65536 by omega)) (by omega)
      obtain ⟨q, hq, eq⟩ : ∃ q : Nat, p % m = q ∧ (p : Int) % (m : Int) = (q : Int) := ⟨p % m, rfl, by rw [Int.natCast_emod]⟩
      have hql : q < m := by rw [← hq]; exact Nat.mod_lt _ hm0
      have tq : (p : Int).tmod (m : Int) = (q : Int) := by rw [Int.tmod_eq_emod_of_nonneg (by omega)]; exact eq
      have HK : Hid (k * k % m = q) := hide (by rw [hp, hq])
      clear hp hq
      by_cases hqr : q = r
      · have hqe : ((q : Int) == (r : Int)) = true := by rw [hqr]; simp
        have HT : Hid (rti m r (k + 1) = rti m r k ++ [(k : Int)]) := hide (rti_hit (by rw [HK.out, hqr]))
        go_wp2_with (at_builtin; refine wpList_append_own _ rfl _ _ 57 rfl w.heap.size 3 i0 (.int .i64 0) 1 8 Tryz.underlying57 hi hz0 hz1 hz2 rfl (by decide) _ _ _ rfl (World.ownsRow.alloc ho _) ⟨wr.heap.size, 0, none⟩ 1 1 ([(k : Int)].map iv) rfl rfl (news_ints [(k : Int)]) (iv_oneCell _) (by unfold maxLen; omega) (by omega) (by have := HB.out.size; simp; omega) ?_; intro v' w2 hown2 hgrow2 _)
        have HO := hide hown2
        have HB2 := hide ((HB.out.alloc HB.out.size (.cells ([(k : Int)].map iv).toArray 3)).grown hgrow2 (by have := HB.out.size; simp; omega) (fun k hk => (World.ownsRow.lt ho k hk).1))
        clear hown2 hgrow2 ho
        go_wp2
        go_roundw
        case rel =>
          refine ⟨k + 1, by go_num, hkm, ?_, HB2.out⟩
          unfold IL
          rw [HT.out, List.length_append, List.map_append]
          exact HO.out
        case measure => simp [intOf]; omega
      · have hqe : ((q : Int) == (r : Int)) = false := by rw [beq_eq_false_iff_ne]; omega
        have HT : Hid (rti m r (k + 1) = rti m r k) := hide (rti_miss (by rw [HK.out]; exact hqr))
        have HO := hide ho
        clear ho
        go_wp2
        go_roundw
        case rel => exact ⟨k + 1, by go_num, hkm, by rw [HT.out]; exact HO.out, HB.out⟩
        case measure => simp [intOf]; omega
    · have i1 : ¬ ((k : Int) < (m : Int)) := by omega
      have ek : k = m := by omega
      rw [ek] at ho
      have HO := hide ho
      clear ho ek
      go_wp2
      go_returns
      exact ⟨⟨_, rfl, HO.out⟩, HB.out⟩

theorem rroots_no (v : Value) (m : Int) (w : World) (h : m < 1 ∨ 65536 < m) :
    Calls Tryz.prog 30 #[v, .int .i64 m] w fun e w' => e = .returned (.tuple #[.slice none 0 0, .int .i64 1]) ∧ w' = w := by
  by_cases h0 : m < 1
  · clear h
    go_enter Tryz.func30, Tryz.ntmps30
    go_wp2
    go_returns
    exact ⟨rfl, rfl⟩
  · have h1 : 65536 < m := by omega
    clear h
    go_enter Tryz.func30, Tryz.ntmps30
    go_wp2
    go_returns
    exact ⟨rfl, rfl⟩

set_option maxRecDepth 20000 in
set_option maxHeartbeats 1000000 in
theorem rroots_any (v : Value) (x m : Nat) (w : World) (h : Num w v x) (hx : blen x ≤ 1125899906809856) (hm0 : 0 < m) (hm : m ≤ 65536) :
    Calls Tryz.prog 30 #[v, .int .i64 m] w fun e w' => (∃ v, e = .returned (.tuple #[v, .int .i64 0]) ∧ IL w' w.heap.size v (rti m (x % m) m)) ∧ Below w.heap.size w w' := by
  have m1 : ¬ ((m : Int) < 1) := by omega
  have m3 : ¬ ((65536 : Int) < (m : Int)) := by omega
  have m2 : decide ((65536 : Int) < (m : Int)) = false := decide_eq_false m3
  have HI := rint_all m w (by omega)
  obtain ⟨r, hr⟩ : ∃ r, x % m = r := ⟨_, rfl⟩
  have hrl : r < m := by rw [← hr]; exact Nat.mod_lt _ hm0
  have HN := hide h
  have HR := hide hr
  rw [hr]
  have hz : ((m : Int) == 0) = false := by rw [beq_eq_false_iff_ne]; omega
  obtain ⟨i0, hi, hz0, hz1, hz2⟩ := info_parts Tryz.infoI
  clear h hr
  go_enter Tryz.func30, Tryz.ntmps30
  go_wp2_with fail
  refine HI.mono ?_
  rintro e w1 ⟨⟨v1, rfl, N1⟩, hb1⟩
  have bm : blen m ≤ 64 := (blen_le_iff _ 64).2 (by omega)
  have HD := rdiv_any v v1 x m w1 (HN.out.below hb1) N1 (by omega) (by omega) (by omega)
  rw [HR.out] at HD
  have HB1 := hide hb1
  clear HI N1 hb1 bm
  go_wp2_with fail
  refine HD.mono ?_
  rintro e wS ⟨⟨vq, vr, rfl, _, Nr⟩, hb2⟩
  have ST := hide (And.intro Nr (HB1.out.trans (hb2.mono HB1.out.size)))
  have hbw : w.heap.size ≤ wS.heap.size := ST.out.2.size
  clear HD Nr hb2
  go_wp2
  go_loopw [8, 9] (fun v i wr => ∃ k : Nat, i = .int .i64 (k : Int) ∧ k ≤ m ∧ IL wr wS.heap.size v (rti m r k) ∧ Below wS.heap.size wS wr) (fun _ i _ => (65537 - intOf i).toNat)
  case atStart => exact ⟨0, rfl, Nat.zero_le _, IL.nil _ _, Below.refl _ _⟩
  case round =>
    obtain ⟨k, rfl, hk, ho, hbel⟩ := hrel
    have HB := hide hbel
    have hle := rti_le m r k
    clear hbel
    by_cases hkm : k < m
    · have i1 : (k : Int) < (m : Int) := by omega
      obtain ⟨p, hp, ep⟩ : ∃ p : Nat, k * k = p ∧ (k : Int) * (k : Int) = (p : Int) := ⟨k * k, rfl, by rw [Int.natCast_mul]⟩
      have hpl : p ≤ 4294967296 := by
        rw [← hp]
        exact Nat.le_trans (Nat.mul_le_mul (show k ≤ 65536 by omega) (show k ≤ 65536 by omega)) (by omega)
      obtain ⟨q, hq, eq⟩ : ∃ q : Nat, p % m = q ∧ (p : Int) % (m : Int) = (q : Int) := ⟨p % m, rfl, by rw [Int.natCast_emod]⟩
      have hql : q < m := by rw [← hq]; exact Nat.mod_lt _ hm0
      have tq : (p : Int).tmod (m : Int) = (q : Int) := by rw [Int.tmod_eq_emod_of_nonneg (by omega)]; exact eq
      have HK : Hid (k * k % m = q) := hide (by rw [hp, hq])
      clear hp hq
      have HI := rint_all q wr (by omega)
      go_wp2_with fail
      refine HI.mono ?_
      rintro e w3 ⟨⟨v3, rfl, N3⟩, hb3⟩
      have HB' := hide (HB.out.trans (hb3.mono HB.out.size))
      have HC := rcmp_any v3 vr q r w3 N3 (ST.out.1.below HB'.out)
      replace ho := IL.below ho hb3
      clear HI N3 hb3 HB
      by_cases hqr : q = r
      · rw [hqr, cmpN_self] at HC
        have HT : Hid (rti m r (k + 1) = rti m r k ++ [(k : Int)]) := hide (rti_hit (by rw [HK.out, hqr]))
        clear hqr
        go_wp2_with fail
        refine HC.mono ?_
        rintro e w4 ⟨rfl, hs⟩
        have HB := hide (HB'.out.trans (hs.below _))
        replace ho := IL.below ho (hs.below _)
        clear HC hs HB'
        go_wp2_with (at_builtin; refine wpList_append_own _ rfl _ _ 57 rfl wS.heap.size 3 i0 (.int .i64 0) 1 8 Tryz.underlying57 hi hz0 hz1 hz2 rfl (by decide) _ _ _ rfl (World.ownsRow.alloc ho _) ⟨w4.heap.size, 0, none⟩ 1 1 ([(k : Int)].map iv) rfl rfl (news_ints [(k : Int)]) (iv_oneCell _) (by unfold maxLen; omega) (by omega) (by have := HB.out.size; simp; omega) ?_; intro v' w2 hown2 hgrow2 _)
        have HO := hide hown2
        have HB2 := hide ((HB.out.alloc HB.out.size (.cells ([(k : Int)].map iv).toArray 3)).grown hgrow2 (by have := HB.out.size; simp; omega) (fun k hk => (World.ownsRow.lt ho k hk).1))
        clear hown2 hgrow2 ho
        go_wp2
        go_roundw
        case rel =>
          refine ⟨k + 1, by go_num, hkm, ?_, HB2.out⟩
          unfold IL
          rw [HT.out, List.length_append, List.map_append]
          exact HO.out
        case measure => simp [intOf]; omega
      · have hcz : (cmpN q r == 0) = false := by
          rw [beq_eq_false_iff_ne]
          rcases cmpN_range q r with ⟨h, _⟩ | ⟨_, h⟩ | ⟨h, _⟩
          · rw [h]; omega
          · exact absurd h hqr
          · rw [h]; omega
        have HT : Hid (rti m r (k + 1) = rti m r k) := hide (rti_miss (by rw [HK.out]; exact hqr))
        generalize cmpN q r = cc at *
        clear hqr
        go_wp2_with fail
        refine HC.mono ?_
        rintro e w4 ⟨rfl, hs⟩
        have HB := hide (HB'.out.trans (hs.below _))
        have HO := hide (IL.below ho (hs.below _))
        clear HC hs HB' ho
        go_wp2
        go_roundw
        case rel => exact ⟨k + 1, by go_num, hkm, by rw [HT.out]; exact HO.out, HB.out⟩
        case measure => simp [intOf]; omega
    · have i1 : ¬ ((k : Int) < (m : Int)) := by omega
      have ek : k = m := by omega
      rw [ek] at ho
      have HO := hide (IL.base ho hbw)
      have HBF := hide (ST.out.2.trans (HB.out.mono hbw))
      clear ho ek
      go_wp2
      go_returns
      exact ⟨⟨_, rfl, HO.out⟩, HBF.out⟩

end Go.Proofs.YtlphlcmlkibmjacGreatDoor
