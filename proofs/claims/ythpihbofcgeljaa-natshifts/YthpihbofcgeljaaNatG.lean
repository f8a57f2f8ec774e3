/- Package nat: fresh, Low. -/
import Derived.Test.YthpihbofcgeljaaNatF
import Derived.Laws.AppendOwnNone
namespace Go.Proofs.Ythpihbofcgeljaa
open Go.RowKit
open Lm

theorem lv_oneCell (zs : List Nat) : ∀ u ∈ zs.map lv, u.oneCell' = true := by
  intro u hu
  obtain ⟨z, _, rfl⟩ := List.mem_map.1 hu
  rfl

theorem add_none (b off j : Nat) : (⟨b, off, none⟩ : Addr).add j = ⟨b, off + j, none⟩ := by
  unfold Addr.add
  split <;> simp_all

set_option maxHeartbeats 400000 in
theorem fresh_any (v : Value) (zs : List Nat) (w : World) (h : Arg w v zs) (hb : zs.length ≤ 17592186044416) :
    Calls Try.prog 47 #[v] w fun e w' => (∃ v', e = .returned v' ∧ Ans w' w.heap.size v' zs) ∧ Below w.heap.size w w' := by
  obtain ⟨ao, cap, rfl, hcap, hmax, hl⟩ := h.form
  obtain ⟨i0, hi, hz0, hz1, hz2⟩ := info_parts Try.infoU
  have HL := h.limbs
  cases ao with
  | none =>
    have hc0 := h.nz _ _ rfl
    subst hc0
    have hz : zs = [] := List.length_eq_zero_iff.1 (by omega)
    subst hz
    clear hl h
    go_enter Try.func47, Try.ntmps47
    go_wp2_with (at_builtin; refine wpList_append_own_none rfl _ _ 23 rfl w.heap.size 42 i0 1 Try.underlying23 hi _ 0 [] rfl (World.ownsRow_nil _ _ _ _) rfl ?_)
    go_ret
    exact ⟨⟨_, rfl, Ans.nil _ _⟩, Below.refl _ _⟩
  | some ad =>
    have hnews : ∀ j u, (zs.map lv)[j]? = some u → w.cell? (ad.add j) = some u := by
      intro j u hj
      rcases hl with rfl | ⟨b, off, he, hc⟩
      · simp at hj
      · cases he
        rw [List.getElem?_map] at hj
        obtain ⟨z, hz, rfl⟩ := Option.map_eq_some_iff.1 hj
        have hjl : j < zs.length := (List.getElem?_eq_some_iff.1 hz).1
        have := hc j hjl
        simp only [List.getD, hz, Option.getD_some] at this
        rw [add_none]
        exact this
    clear hl h
    go_enter Try.func47, Try.ntmps47
    go_wp2_with (at_builtin; refine wpList_append_own _ rfl _ _ 23 rfl w.heap.size 42 i0 (.int .u64 0) 1 8 Try.underlying23 hi hz0 hz1 hz2 rfl (by decide) _ 0 [] rfl (World.ownsRow_nil _ _ _ _) ad zs.length cap (zs.map lv) rfl (by simp) hnews (lv_oneCell zs) (by unfold maxLen; omega) (by omega) (Nat.le_refl _) ?_; intro v' w1 hown hgrow _)
    rw [Nat.zero_add, List.nil_append] at hown
    have HA : Hid (Ans w1 w.heap.size v' zs) := ⟨hown, HL⟩
    have HB : Hid (Below w.heap.size w w1) := (Below.refl _ _).grown hgrow (Nat.le_refl _) (fun k hk => by cases hk)
    clear hown hgrow hnews
    go_wp2
    go_ret
    exact ⟨⟨_, rfl, HA.out⟩, HB.out⟩

theorem low_no (v : Value) (n : Int) (w : World) (h : n < 0 ∨ 1099511627776 < n) :
    Calls Try.prog 20 #[v, .int .i64 n] w fun e w' => e = .returned (.tuple #[.slice none 0 0, .int .i64 1]) ∧ w' = w := by
  have H := mayShift_no n w h
  clear h
  go_enter Try.func20, Try.ntmps20
  go_wp2_with fail
  refine H.mono ?_
  rintro e w' ⟨rfl, rfl⟩
  go_wp2
  go_ret2
  exact ⟨rfl, rfl⟩

set_option maxHeartbeats 800000 in
theorem low_any (v : Value) (zs : List Nat) (n : Nat) (w : World) (h1 : Arg w v zs) (f1 : zs.length ≤ 17592186044416) (hn : n ≤ 1099511627776) :
    Calls Try.prog 20 #[v, .int .i64 n] w fun e w' => Below w.heap.size w w' ∧ Res w' w.heap.size e (val zs % 2 ^ n) := by
  obtain ⟨a1, c1, rfl, hc1, hm1, hl1⟩ := h1.form
  have H0 := mayShift_yes n w (by omega) (by omega)
  have H1 := trim_any a1 c1 zs w hc1 hm1 hl1
  have l1 := tr_length_le zs
  have L1 := hl1.tr
  have M1 := limbs_tr h1.limbs
  have ht := h1.trim
  obtain ⟨q, s, hs, hnq⟩ : ∃ q s, s < 64 ∧ n = q * 64 + s := ⟨n / 64, n % 64, by omega, by omega⟩
  have eq1 : (n : Int) / 64 = (q : Int) := by omega
  have eq2 : (n : Int) % 64 = (s : Int) := by omega
  have HN : Hid (n = q * 64 + s) := hnq
  have hq : q ≤ 17179869184 := by omega
  clear hnq
  by_cases hql : (tr zs).length ≤ q
  · have HV : Hid (val (tr zs) = val zs % 2 ^ n) := by
      refine hide ?_
      rw [val_tr, Nat.mod_eq_of_lt]
      have := val_lt M1
      rw [val_tr, W_pow] at this
      have h2 : (2 : Nat) ^ ((tr zs).length * 64) ≤ 2 ^ n := Nat.pow_le_pow_right (by omega) (by have := HN.out; omega)
      omega
    have H2 := fresh_any _ _ w ht (by omega)
    clear L1 M1 hl1 h1 ht
    generalize tr zs = Z at *
    go_enter Try.func20, Try.ntmps20
    go_wp2_with fail
    refine H0.mono ?_
    rintro e w' ⟨rfl, rfl⟩
    go_wp2_with fail
    refine H1.mono ?_
    rintro e w' ⟨rfl, rfl⟩
    go_wp2_with fail
    refine H2.mono ?_
    rintro e w1 ⟨⟨v', rfl, hans⟩, hb⟩
    have H3 := answer_own v' w'.heap.size Z w1 hans (by omega)
    have HB : Hid (Below w'.heap.size w' w1) := hb
    clear hans hb H0 H1 H2
    go_wp2_with fail
    refine H3.mono ?_
    rintro e w2 ⟨rfl, hres⟩
    rw [HV.out] at hres
    unfold Res at hres
    obtain ⟨v, c, rs, rfl, hres⟩ := hres
    have HX := hide hres
    clear hres H3
    go_wp2
    go_ret2
    exact ⟨HB.out, v, c, rs, rfl, HX.out⟩
  · rcases L1 with h' | ⟨b, off, rfl, hcell⟩
    · simp [h'] at hql
    · have hcn : c1 ≤ 9223372036854775807 := hm1
      have hcl : (tr zs).length ≤ c1 := by omega
      have harg : Arg w (.slice (some ⟨b, off, none⟩) (q + 1) c1) ((tr zs).take (q + 1)) := by
        have el : ((tr zs).take (q + 1)).length = q + 1 := by simp; omega
        refine ⟨⟨some ⟨b, off, none⟩, c1, by rw [el], by omega, hm1, .inr ⟨b, off, rfl, fun k hk => ?_⟩⟩, limbs_take M1 _, by omega, fun n c e => by cases e⟩
        rw [el] at hk
        rw [hcell k (by omega)]
        simp [List.getD, hk]
      have H2 := fresh_any _ _ w harg (by simp; omega)
      clear hcell hl1 h1 ht harg
      generalize htz : tr zs = Z at *
      have HTZ := hide htz
      clear htz
      go_enter Try.func20, Try.ntmps20
      go_wp2_with fail
      refine H0.mono ?_
      rintro e w' ⟨rfl, rfl⟩
      go_wp2_with fail
      refine H1.mono ?_
      rintro e w' ⟨rfl, rfl⟩
      go_wp2_with fail
      refine H2.mono ?_
      rintro e w1 ⟨⟨v', rfl, hans⟩, hb⟩
      have el : (Z.take (q + 1)).length = q + 1 := by simp; omega
      rcases hans.form with ⟨_, h0⟩ | ⟨g, cap, rfl, hg1, hg2, hgl, hgm, hfr, hgc⟩
      · rw [h0] at el; simp at el
      · have hc := hgc q (by omega)
        have hf := hfr q
        have hgt : (Z.take (q + 1)).getD q 0 = Z.getD q 0 := by simp [List.getD]
        rw [hgt] at hc
        have hxl := limb_lt M1 q
        have HV : Hid (val ((Z.take (q + 1)).set q (Z.getD q 0 % 2 ^ s)) = val zs % 2 ^ n) := by
          refine hide ?_
          rw [low_val M1 q s n hs HN.out (by omega), ← HTZ.out, val_tr]
        generalize Z.getD q 0 = x at *
        have HA2 : Hid (Ans (w1.setCell ⟨g, q, none⟩ (.int .u64 ((x % 2 ^ s : Nat) : Int))).drew w'.heap.size (.slice (some ⟨g, 0, none⟩) (q + 1) cap) ((Z.take (q + 1)).set q (x % 2 ^ s))) := by
          have ho := hans.own
          rw [el] at ho
          have h2 := ho.stored q (.int .u64 ((x % 2 ^ s : Nat) : Int))
          refine hide ⟨?_, limbs_set (limbs_take M1 _) _ _ (Nat.lt_of_le_of_lt (Nat.mod_le _ _) hxl)⟩
          have e3 : ((Z.take (q + 1)).set q (x % 2 ^ s)).length = q + 1 := by rw [List.length_set, el]
          rw [e3, List.map_set]
          exact h2.1
        rw [el] at hgl ⊢
        have HB : Hid (Below w'.heap.size w' w1) := hb
        have hi1 : (0 : Int) ≤ (q : Int) := by omega
        have hi2 : (q : Int) < (q : Int) + 1 := by omega
        clear hans hb H0 H1 H2 hgc hfr hgt el M1
        go_wp2
        go_region
        go_wp2_with fail
        rw [walk_and x s hs hxl]
        refine (answer_own _ w'.heap.size _ _ HA2.out (by simp; omega)).mono ?_
        rintro e w2 ⟨rfl, hres⟩
        rw [HV.out] at hres
        unfold Res at hres
        obtain ⟨v, c, rs, rfl, hres⟩ := hres
        have HX := hide hres
        clear hres
        go_wp2
        go_ret2
        exact ⟨((HB.out).setCell (by exact hg1) _).drew, v, c, rs, rfl, HX.out⟩

end Go.Proofs.Ythpihbofcgeljaa
