/- What the laws of package mul use besides: all, same, sum. -/
import Derived.Test.YtlphlcmlkibmjaaDoorQK
import Derived.Test.YtlphlcmlkibmjaaDoorQG
import Derived.Test.YtlphlcmlkibmjaaDoorQH
import Derived.Test.YtlphlcmlkibmjaaDoorQC
namespace Go.Proofs.YtlphlcmlkibmjaaDoor
open Go.RowKit
open Lm
attribute [local go_sem ↓] Go.wp_at_zero Go.wp_at_succ

/-- Are all codes 0? -/
def all0 (cs : List Int) : Bool := cs.all (· == 0)

theorem all0_take (cs : List Int) (k : Nat) (hk : k < cs.length) (h : all0 (cs.take k) = true) : all0 (cs.take (k + 1)) = (cs.getD k 0 == 0) := by
  unfold all0 at *
  rw [List.take_succ_eq_append_getElem hk, List.all_append, h]
  simp [List.getD, hk]

theorem all0_not (cs : List Int) (k : Nat) (hk : k < cs.length) (h : (cs.getD k 0 == 0) = false) : all0 cs = false := by
  unfold all0
  rw [List.all_eq_false]
  refine ⟨cs[k], List.getElem_mem _, ?_⟩
  simpa [List.getD, hk] using h

set_option maxHeartbeats 400000 in
theorem all_any (g : Nat) (cs : List Int) (w : World) (hc : ∀ k, k < cs.length → w.cell? ⟨g, k, none⟩ = some (.int .i64 (cs.getD k 0))) (hl : cs.length ≤ 1000) :
    Calls Tryd.prog 23 #[.slice (some ⟨g, 0, none⟩) cs.length cs.length] w fun e w' => e = .returned (.bool (all0 cs)) ∧ w' = w := by
  go_enter Tryd.func23, Tryd.ntmps23
  go_wp2
  go_loopw [7] (fun i wr => ∃ k : Nat, k ≤ cs.length ∧ i = .int .i64 k ∧ wr = w ∧ all0 (cs.take k) = true) (fun i _ => cs.length - (intOf i).toNat)
  case atStart => exact ⟨0, Nat.zero_le _, rfl, rfl, rfl⟩
  case round =>
    obtain ⟨k, hk, rfl, rfl, ht⟩ := hrel
    have HT := hide ht
    clear ht
    by_cases hkl : k < cs.length
    · have hck := hc k hkl
      have HN := num_any (cs.getD k 0) wr
      clear hc
      have hi1 : (0 : Int) ≤ (k : Int) := by omega
      have hi2 : (k : Int) < (cs.length : Int) := by omega
      by_cases hz : (cs.getD k 0 == 0) = true
      · have HT2 : Hid (all0 (cs.take (k + 1)) = true) := hide (by rw [all0_take cs k hkl HT.out]; exact hz)
        have hz' : cs.getD k 0 = 0 := by simpa using hz
        rw [hz'] at hck HN
        clear hz hz'
        go_wp2_with fail
        refine HN.mono ?_
        rintro e w2 ⟨rfl, hw⟩; subst hw
        clear HN
        go_wp2
        go_roundw
        case rel => exact ⟨k + 1, by omega, by go_num, trivial, HT2.out⟩
        case measure => simp [intOf]; omega
      · have hz' : (cs.getD k 0 == 0) = false := by simpa using hz
        have HA := hide (all0_not cs k hkl hz')
        clear hz
        generalize cs.getD k 0 = c at *
        have hz2 : (c != 0) = true := by rw [bne, hz']; rfl
        go_wp2_with fail
        refine HN.mono ?_
        rintro e w2 ⟨rfl, hw⟩; subst hw
        clear HN
        go_wp2
        go_ret
        rw [HA.out]
        exact ⟨rfl, rfl⟩
    · have ek : cs.take k = cs := List.take_of_length_le (by omega)
      rw [ek] at HT
      clear hc ek
      go_wp2
      go_ret
      rw [HT.out]
      exact ⟨rfl, rfl⟩

theorem cmpN_zero (x y : Nat) : (cmpN x y == 0) = decide (x = y) := by
  unfold cmpN
  by_cases h : x < y
  · rw [if_pos h]; simp; omega
  · rw [if_neg h]
    by_cases h2 : x = y
    · subst h2; simp
    · have h3 : ¬ (x = y) := h2
      have h4 : y < x := by omega
      simp [h3, h4]

/-- The same number? -/
theorem lsame_any (va vb : Value) (X Y : List Nat) (w : World) (hA : Arg w va X) (hA2 : Arg w vb Y) (hX : X.length ≤ 17592186044416) (hY : Y.length ≤ 17592186044416) :
    Calls Tryd.prog 24 #[va, vb] w fun e w' => e = .returned (.bool (decide (val X = val Y))) ∧ Below w.heap.size w w' := by
  have H1 := of_any va X w hA hX
  have HE := hide (cmpN_zero (val X) (val Y))
  clear hA
  go_enter Tryd.func24, Tryd.ntmps24
  go_wp2_with fail
  refine H1.mono ?_
  rintro e w1 ⟨⟨v1, rfl, N1⟩, hb⟩
  have HB := hide hb
  have H2 := of_any vb Y w1 (hA2.below hb) hY
  clear hb hA2 H1
  go_wp2_with fail
  refine H2.mono ?_
  rintro e w2 ⟨⟨v2, rfl, N2⟩, hb⟩
  have HB2 := hid_below HB hb
  have H3 := rcmp_any v1 v2 _ _ w2 (N1.below hb) N2
  clear hb H2 N1 N2
  go_wp2_with fail
  refine H3.mono ?_
  rintro e w3 ⟨rfl, hs⟩
  have HB3 := hid_below HB2 hs.top
  clear hs H3
  generalize cmpN (val X) (val Y) = c at *
  go_wp2
  go_ret
  exact ⟨by show Ending.returned (Value.bool (c == 0)) = _; rw [HE.out], HB3.out⟩

/-- The sum, by the document's reckoning. -/
theorem lsum_any (va vb : Value) (X Y : List Nat) (w : World) (hA : Arg w va X) (hA2 : Arg w vb Y) (hX : X.length ≤ 17592186043904) (hY : Y.length ≤ 17592186043904) :
    Calls Tryd.prog 25 #[va, vb] w fun e w' => (∃ v rs, e = .returned v ∧ Ans w' w.heap.size v rs ∧ val rs = val X + val Y ∧ tr rs = rs ∧ rs.length ≤ max X.length Y.length + 1) ∧ Below w.heap.size w w' := by
  have H1 := of_any va X w hA (by omega)
  have bx := hA.bits hX
  have by' := hA2.bits hY
  have lX := val_lt hA.limbs
  have lY := val_lt hA2.limbs
  have HLX := hide (And.intro lX lY)
  clear hA lX lY
  go_enter Tryd.func25, Tryd.ntmps25
  go_wp2_with fail
  refine H1.mono ?_
  rintro e w1 ⟨⟨v1, rfl, N1⟩, hb⟩
  have HB := hide hb
  have H2 := of_any vb Y w1 (hA2.below hb) (by omega)
  clear hb hA2 H1
  go_wp2_with fail
  refine H2.mono ?_
  rintro e w2 ⟨⟨v2, rfl, N2⟩, hb⟩
  have HB2 := hid_below HB hb
  have H3 := radd_any v1 v2 _ _ w2 (N1.below hb) N2 (by omega) (by omega)
  clear hb H2 N1 N2
  go_wp2_with fail
  refine H3.mono ?_
  rintro e w3 ⟨⟨v3, rfl, ds, hd1, hd2, hd3, hd4, hd5⟩, hb⟩
  have HB3 := hid_below HB2 hb
  have hlen : (pairs ds).length ≤ max X.length Y.length + 1 := by
    have e1 : tr (pairs ds) = pairs ds := pairs_tr ds hd3
    rw [← e1]
    refine tr_len_lt _ _ ?_
    have hm1 : X.length ≤ max X.length Y.length := by omega
    have hm2 : Y.length ≤ max X.length Y.length := by omega
    generalize max X.length Y.length = m at *
    rw [pairs_val, hd4]
    have h1 := Nat.lt_of_lt_of_le HLX.out.1 (Nat.pow_le_pow_right (by omega) hm1)
    have h2 := Nat.lt_of_lt_of_le HLX.out.2 (Nat.pow_le_pow_right (by omega) hm2)
    rw [Nat.pow_succ]
    generalize (18446744073709551616 : Nat) ^ m = P at *
    omega
  have H4 := limbs_any v3 ds w3 hd1 hd2 (by have := pairs_length ds; omega)
  have HV := hide (And.intro (show val (pairs ds) = val X + val Y by rw [pairs_val, hd4]) (And.intro (pairs_tr ds hd3) hlen))
  clear hb H3 hd1 hd2 hd3 hd4 hd5 hlen
  go_wp2_with fail
  refine H4.mono ?_
  rintro e w4 ⟨⟨v4, rfl, hans⟩, hb⟩
  have HA4 := hide (hans.base HB3.out.size)
  have HB4 := hid_below HB3 hb
  clear hb hans H4
  go_wp2
  go_ret
  exact ⟨⟨v4, _, rfl, HA4.out, HV.out.1, HV.out.2.1, HV.out.2.2⟩, HB4.out⟩

/-- Codes, laid as a list. -/
theorem all_lits (w : World) (cs : List Int) (arr : Array Value) (n : Nat) (hn : n = cs.length) (h : arr = (cs.map fun c => Value.int .i64 c).toArray) (hl : cs.length ≤ 1000) :
    Calls Tryd.prog 23 #[.slice (some ⟨w.heap.size, 0, none⟩) n n] (w.alloc (.cells arr 33)) fun e w' => e = .returned (.bool (all0 cs)) ∧ Below w.heap.size w w' := by
  subst hn
  subst h
  refine (all_any w.heap.size cs _ (fun k hk => ?_) hl).mono ?_
  · have e := heap_alloc_new w (.cells ((cs.map fun c => Value.int .i64 c).toArray) 33)
    generalize w.alloc (.cells ((cs.map fun c => Value.int .i64 c).toArray) 33) = w1 at e
    simp [World.cell?, e, hk, List.getD]
  · rintro e w' ⟨rfl, hw⟩
    subst hw
    exact ⟨rfl, (Below.refl _ _).alloc (Nat.le_refl _) _⟩

/-- Some lists that can be read. -/
def Args (w : World) (L : List (Value × List Nat)) : Prop := ∀ p, p ∈ L → Arg w p.1 p.2

theorem Args.below {w w' : World} {L : List (Value × List Nat)} (h : Args w L) (hb : Below w.heap.size w w') : Args w' L := fun p hp => (h p hp).below hb

theorem Args.add {w : World} {L : List (Value × List Nat)} (h : Args w L) {v : Value} {X : List Nat} (hA : Arg w v X) : Args w ((v, X) :: L) := fun p hp => by
  rcases List.mem_cons.1 hp with h1 | h1
  · subst h1; exact hA
  · exact h p h1

theorem Args.none (w : World) : Args w [] := fun p hp => by cases hp

end Go.Proofs.YtlphlcmlkibmjaaDoor
