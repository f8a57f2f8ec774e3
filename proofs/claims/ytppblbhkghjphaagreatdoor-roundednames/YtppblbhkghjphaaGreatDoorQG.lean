/- The reference's numbers: norm, at, Of. -/
import Derived.Test.YtppblbhkghjphaaGreatDoorQB
import Derived.Test.YtppblbhkghjphaaGreatDoorQA
namespace Go.Proofs.YtppblbhkghjphaaGreatDoor
open Go.RowKit
open Lm

/-- A number of the reference: digits of 32 bits, no nought at the top. -/
def Num (w : World) (v : Value) (x : Nat) : Prop := ∃ ds, Arg w v ds ∧ Digs 4294967296 ds ∧ tr ds = ds ∧ vb 4294967296 ds = x ∧ ds.length ≤ 35184372088900

theorem Num.below {w w' : World} {v : Value} {x : Nat} (h : Num w v x) (hb : Below w.heap.size w w') : Num w' v x := by
  obtain ⟨ds, h1, h2⟩ := h
  exact ⟨ds, h1.below hb, h2⟩

theorem Num.nil (w : World) : Num w (.slice none 0 0) 0 :=
  ⟨[], ⟨⟨none, 0, rfl, by simp, by simp, .inl rfl⟩, (by intro z hz; cases hz), by simp, fun n c e => by cases e; rfl⟩, (by intro z hz; cases hz), rfl, rfl, by simp⟩

theorem norm_some (b off cap : Nat) (zs : List Nat) (w : World) (hcap : zs.length ≤ cap) (hmax : cap ≤ 9223372036854775807)
    (hc : ∀ k, k < zs.length → w.cell? ⟨b, off + k, none⟩ = some (.int .u64 ((zs.getD k 0 : Nat) : Int))) :
    Calls Tryz.prog 35 #[.slice (some ⟨b, off, none⟩) zs.length cap] w fun e w' => e = .returned (.slice (some ⟨b, off, none⟩) (tr zs).length (tr zs).length) ∧ w' = w := by
  go_enter Tryz.func35, Tryz.ntmps35
  go_wp2
  go_loop [3] (fun n => ∃ k : Nat, k ≤ zs.length ∧ n = .int .i64 k ∧ tr (zs.take k) = tr zs) (fun n => (intOf n).toNat)
  case atStart => exact ⟨zs.length, Nat.le_refl _, rfl, by rw [List.take_length]⟩
  case round =>
    obtain ⟨k, hk, rfl, ht⟩ := hrel
    have HT := hide ht
    clear ht
    by_cases h0 : k = 0
    · subst h0
      go_wp2
      go_ret
      have e := HT.out
      simp only [List.take_zero, tr] at e
      rw [← e]
      exact ⟨rfl, rfl⟩
    · obtain ⟨j, rfl⟩ : ∃ j, k = j + 1 := ⟨k - 1, by omega⟩
      have hcj := hc j (by omega)
      clear hc
      by_cases hz : zs.getD j 0 = 0
      · have HZ : Hid (tr (zs.take j) = tr zs) := by rw [← tr_step zs j (by omega) hz]; exact HT.out
        rw [hz] at hcj
        clear hz HT
        go_wp2
        go_round
        case rel => exact ⟨j, by omega, by go_num, HZ.out⟩
        case measure => simp [intOf]
      · have HZ : Hid (tr zs = zs.take (j + 1)) := by rw [← HT.out]; exact tr_stop zs j (by omega) hz
        clear HT
        generalize zs.getD j 0 = z at hcj hz
        have hne : ((z : Int) == 0) = false := by rw [beq_eq_false_iff_ne]; omega
        clear hz
        go_wp2
        go_ret
        rw [HZ.out]
        have e : (zs.take (j + 1)).length = j + 1 := by simp; omega
        rw [e]
        exact ⟨rfl, rfl⟩

theorem norm_none (ao : Option Addr) (cap : Nat) (w : World) (_hmax : cap ≤ 9223372036854775807) :
    Calls Tryz.prog 35 #[.slice ao 0 cap] w fun e w' => e = .returned (.slice ao 0 0) ∧ w' = w := by
  go_enter Tryz.func35, Tryz.ntmps35
  go_wp2
  refine wp_loop_rounds 1 ?_
  rw [rounds_succ]
  go_wp2
  go_ret
  exact ⟨rfl, rfl⟩

/-- Whatever limbs the value has lie from block B on. -/
def New (B : Nat) (v : Value) : Prop := ∀ b off n c, v = .slice (some ⟨b, off, none⟩) n c → B ≤ b

theorem New.nil (B n c : Nat) : New B (.slice none n c) := fun _ _ _ _ e => by cases e

theorem New.at (B b off n c : Nat) (h : B ≤ b) : New B (.slice (some ⟨b, off, none⟩) n c) := fun _ _ _ _ e => by cases e; exact h

theorem New.mono {B B' : Nat} {v : Value} (h : New B v) (hb : B' ≤ B) : New B' v := fun b off n c e => Nat.le_trans hb (h b off n c e)

/-- A store elsewhere leaves a number as it is. -/
theorem Num.store {w : World} {v : Value} {x g j : Nat} {u : Value} (h : Num w v x) (hn : New (g + 1) v) : Num (w.setCell ⟨g, j, none⟩ u) v x := by
  obtain ⟨ds, hA, hr⟩ := h
  refine ⟨ds, ?_, hr⟩
  obtain ⟨ao, cap, h1, h2, h3, h4⟩ := hA.form
  refine ⟨⟨ao, cap, h1, h2, h3, ?_⟩, hA.limbs, hA.few, hA.nz⟩
  rcases h4 with h4 | ⟨b, off, rfl, hc⟩
  · exact .inl h4
  · have hb := hn b off _ _ h1
    refine .inr ⟨b, off, rfl, fun k hk => ?_⟩
    rw [World.cell?_of_block (w := w) (Below.heap_setCell w ⟨g, j, none⟩ u b (by show b ≠ g; omega))]
    exact hc k hk

theorem norm_new (B : Nat) (v : Value) (ds : List Nat) (w : World) (h : Arg w v ds) (hd : Digs 4294967296 ds) (hl : ds.length ≤ 35184372088900) (hB : New B v) :
    Calls Tryz.prog 35 #[v] w fun e w' => (∃ v', e = .returned v' ∧ Num w v' (vb 4294967296 ds) ∧ New B v') ∧ w' = w := by
  obtain ⟨ao, cap, rfl, hcap, hmax, hlies⟩ := h.form
  have hle := tr_length_le ds
  have H : Calls Tryz.prog 35 #[.slice ao ds.length cap] w fun e w' => e = .returned (.slice ao (tr ds).length (tr ds).length) ∧ w' = w := by
    rcases hlies with rfl | ⟨b, off, rfl, hc⟩
    · exact norm_none ao cap w hmax
    · exact norm_some b off cap ds w hcap hmax hc
  refine H.mono ?_
  rintro e w' ⟨rfl, rfl⟩
  refine ⟨⟨_, rfl, ⟨tr ds, ⟨⟨ao, _, rfl, Nat.le_refl _, by omega, hlies.tr⟩, limbs_tr h.limbs, by omega, ?_⟩, digs_tr hd, tr_tr ds, vb_tr ds, by omega⟩, fun b off n c e => ?_⟩, rfl⟩
  rotate_left
  · cases e; exact hB b off _ _ rfl
  intro n c e
  cases e
  have := h.nz _ _ rfl
  omega

theorem norm_any (v : Value) (ds : List Nat) (w : World) (h : Arg w v ds) (hd : Digs 4294967296 ds) (hl : ds.length ≤ 35184372088900) :
    Calls Tryz.prog 35 #[v] w fun e w' => (∃ v', e = .returned v' ∧ Num w v' (vb 4294967296 ds)) ∧ w' = w :=
  (norm_new 0 v ds w h hd hl (fun _ _ _ _ _ => Nat.zero_le _)).mono fun _ _ ⟨⟨v', h1, h2, _⟩, h3⟩ => ⟨⟨v', h1, h2⟩, h3⟩

end Go.Proofs.YtppblbhkghjphaaGreatDoor

/- The reference's numbers: Of. -/
namespace Go.Proofs.YtppblbhkghjphaaGreatDoor
open Go.RowKit
open Lm

theorem news_cells {w : World} (l : List Nat) (j : Nat) (u : Value) (hj : (l.map lv)[j]? = some u) : (w.alloc (.cells (l.map lv).toArray 32)).cell? ((⟨w.heap.size, 0, none⟩ : Addr).add j) = some u := by
  have e : (⟨w.heap.size, 0, none⟩ : Addr).add j = ⟨w.heap.size, j, none⟩ := by
    unfold Addr.add; split <;> simp_all
  rw [e]
  simp only [World.cell?, heap_alloc_new]
  simpa using hj

set_option maxHeartbeats 800000 in
theorem of_any (v : Value) (zs : List Nat) (w : World) (h : Arg w v zs) (hf : zs.length ≤ 17592186044416) :
    Calls Tryz.prog 17 #[v] w fun e w' => (∃ v', e = .returned v' ∧ Num w' v' (val zs)) ∧ Below w.heap.size w w' := by
  obtain ⟨ao, cap, rfl, hcap, hmax, L1⟩ := h.form
  have M1 := h.limbs
  obtain ⟨i0, hi, hz0, hz1, hz2⟩ := info_parts Tryz.infoU
  clear h
  go_enter Tryz.func17, Tryz.ntmps17
  go_wp2_with (at_make; refine wpList_make_own _ rfl _ _ 36 rfl w.heap.size 32 i0 (.int .u64 0) 1 Tryz.underlying36 hi hz0 hz1 .i64 .i64 _ (2 * zs.length) rfl rfl (by omega) (by rw [hz2]; omega) (by unfold maxLen; omega) (Nat.le_refl _) ?_; intro w1 hown hgrow)
  have hbel : Below w.heap.size w w1 := (Below.refl _ _).grown hgrow (Nat.le_refl _) (fun k hk => by cases hk)
  have hsz : w.heap.size < w1.heap.size := by
    have := hown.lt w.heap.size rfl
    exact this.2
  clear hgrow hz0 hz2
  go_loopw [3, 12] (fun o i wr => ∃ k : Nat, k ≤ zs.length ∧ i = .int .i64 k ∧ o = .slice (some ⟨w.heap.size, 0, none⟩) (2 * k) (2 * zs.length) ∧ wr.ownsRow w.heap.size 32 1 (.slice (some ⟨w.heap.size, 0, none⟩) (2 * k) (2 * zs.length)) (2 * k) ((halves (zs.take k)).map lv) ∧ Below w.heap.size w wr) (fun _ i _ => zs.length - (intOf i).toNat)
  case atStart => exact ⟨0, Nat.zero_le _, rfl, rfl, hown, hbel⟩
  case round =>
    obtain ⟨k, hk, rfl, rfl, ho, hbl⟩ := hrel
    clear hown hbel
    by_cases hkl : k < zs.length
    · rcases L1.below hbl with h0 | ⟨b, off, rfl, hcell⟩
      · simp [h0] at hkl
      · have hck := hcell k hkl
        have z1 := limb_lt M1 k
        have HT := hide (halves_take zs k hkl)
        generalize zs.getD k 0 = z at *
        have e1 : (z : Int) % 4294967296 = ((z % 4294967296 : Nat) : Int) := by omega
        have e2 : (z : Int) / 4294967296 = ((z / 4294967296 : Nat) : Int) := by omega
        have b1 : z % 4294967296 < 4294967296 := by omega
        have b2 : z / 4294967296 < 4294967296 := by omega
        generalize z % 4294967296 = lo at *
        generalize z / 4294967296 = hh at *
        have HB := hide hbl
        clear hcell L1 M1 hbl
        go_wp2_with (at_builtin; refine wpList_append_fits _ rfl _ _ 36 rfl w.heap.size 32 i0 1 Tryz.underlying36 hi hz1 w.heap.size (2 * k) (2 * zs.length) _ rfl (ho.alloc _) ⟨wr.heap.size, 0, none⟩ 2 2 ([lo, hh].map lv) rfl rfl (news_cells [lo, hh]) (lv_oneCell _) (by omega) ?_; intro w2 hown2 hgrow2)
        have HO := hide hown2
        have HB2 := hide ((HB.out.alloc HB.out.size (.cells ([lo, hh].map lv).toArray 32)).grown hgrow2 (by have := HB.out.size; simp; omega) (fun k hk => by cases hk; exact Nat.le_refl _))
        clear hown2 hgrow2 ho hck
        go_wp2
        go_roundw
        case rel =>
          refine ⟨k + 1, by omega, by go_num, rfl, ?_, HB2.out⟩
          rw [HT.out, List.map_append]
          exact HO.out
        case measure => simp [intOf]; omega
    · have ek : k = zs.length := by omega
      subst ek
      rw [List.take_length] at ho
      have el := halves_length zs
      have hA : Ans wr w.heap.size (.slice (some ⟨w.heap.size, 0, none⟩) (2 * zs.length) (2 * zs.length)) (halves zs) := ⟨by rw [el]; exact ho, digs_limbs (halves_digs M1)⟩
      have H := norm_any _ _ _ (hA.arg (by omega)) (halves_digs M1) (by omega)
      rw [halves_val] at H
      have HB := hide hbl
      clear ho hA hbl L1 M1
      go_wp2_with fail
      refine H.mono ?_
      rintro e w2 ⟨⟨v', rfl, hnum⟩, rfl⟩
      have HN := hide hnum
      clear hnum H
      go_wp2
      go_ret
      exact ⟨⟨v', rfl, HN.out⟩, HB.out⟩

end Go.Proofs.YtppblbhkghjphaaGreatDoor

/- The reference's lent memory: Lend, Kept. -/
namespace Go.Proofs.YtppblbhkghjphaaGreatDoor
open Go.RowKit
open Lm

/-- A list in the middle of greater memory. -/
def lent (zs : List Nat) : List Nat := 10855845 :: 10855845 :: (zs ++ [10855845, 10855845])

theorem lent_length (zs : List Nat) : (lent zs).length = zs.length + 4 := by simp [lent]

theorem lent_mid (zs : List Nat) (k : Nat) (h : k < zs.length) : (lent zs).getD (k + 2) 0 = zs.getD k 0 := by
  simp [lent, List.getD, h, List.getElem?_append_left h]

theorem lent_low (zs : List Nat) (k : Nat) (h : k < 2) : (lent zs).getD k 0 = 10855845 := by
  match k, h with
  | 0, _ => rfl
  | 1, _ => rfl

theorem lent_high (zs : List Nat) (k : Nat) (h1 : zs.length + 2 ≤ k) (h2 : k < zs.length + 4) : (lent zs).getD k 0 = 10855845 := by
  obtain ⟨j, rfl⟩ : ∃ j, k = zs.length + j + 2 := ⟨k - 2 - zs.length, by omega⟩
  match j, show j < 2 by omega with
  | 0, _ => simp [lent, List.getD]
  | 1, _ => simp [lent, List.getD]

theorem lent_limbs {zs : List Nat} (h : Limbs zs) : Limbs (lent zs) := by
  intro z hz
  simp only [lent, List.mem_cons, List.mem_append, List.not_mem_nil, or_false] at hz
  rcases hz with rfl | rfl | hz | rfl | rfl
  · omega
  · omega
  · exact h z hz
  · omega
  · omega

theorem set_mid (a b : List Nat) (x y : Nat) : (a ++ x :: b).set a.length y = (a ++ [y]) ++ b := by
  simp

/-- While the memory is filled. -/
def fillTo (m k : Nat) : List Nat := List.replicate k 10855845 ++ List.replicate (m - k) 0

theorem fillTo_set (m k : Nat) (h : k < m) : (fillTo m k).set k 10855845 = fillTo m (k + 1) := by
  unfold fillTo
  have e : m - k = (m - (k + 1)) + 1 := by omega
  rw [e, List.replicate_succ]
  have := set_mid (List.replicate k 10855845) (List.replicate (m - (k + 1)) 0) 0 10855845
  rw [List.length_replicate] at this
  rw [this, ← List.replicate_succ']

theorem fillTo_length (m k : Nat) (h : k ≤ m) : (fillTo m k).length = m := by
  simp [fillTo]; omega

/-- While the list is laid into it. -/
def lentTo (zs : List Nat) (k : Nat) : List Nat := 10855845 :: 10855845 :: (zs.take k ++ List.replicate (zs.length - k + 2) 10855845)

theorem lentTo_set (zs : List Nat) (k : Nat) (h : k < zs.length) : (lentTo zs k).set (k + 2) (zs.getD k 0) = lentTo zs (k + 1) := by
  unfold lentTo
  have e : zs.length - k + 2 = (zs.length - (k + 1) + 2) + 1 := by omega
  rw [e, List.replicate_succ]
  have := set_mid (zs.take k) (List.replicate (zs.length - (k + 1) + 2) 10855845) 10855845 (zs.getD k 0)
  have el : (zs.take k).length = k := by simp; omega
  rw [el] at this
  simp only [List.set_cons_succ]
  rw [this, take_snoc zs k h]

theorem lentTo_length (zs : List Nat) (k : Nat) (h : k ≤ zs.length) : (lentTo zs k).length = zs.length + 4 := by
  simp [lentTo]; omega

theorem lentTo_start (zs : List Nat) : lentTo zs 0 = fillTo (zs.length + 4) (zs.length + 4) := by
  simp [lentTo, fillTo, List.replicate_succ]

theorem lentTo_end (zs : List Nat) : lentTo zs zs.length = lent zs := by
  simp [lentTo, lent, List.replicate_succ]

theorem part_arg {w : World} {g : Nat} {zs : List Nat} (h : Blk w g (lent zs)) (hl : Limbs zs) (hf : zs.length ≤ 1125899906842000) : Arg w (.slice (some ⟨g, 2, none⟩) zs.length (zs.length + 2)) zs := by
  refine ⟨⟨_, _, rfl, by omega, by omega, .inr ⟨g, 2, rfl, fun k hk => ?_⟩⟩, hl, by omega, fun n c e => by cases e⟩
  rw [Nat.add_comm 2 k, h.cell (k + 2) (by rw [lent_length]; omega), lent_mid zs k hk]

theorem whole_arg {w : World} {g : Nat} {zs : List Nat} (h : Blk w g (lent zs)) (hl : Limbs zs) (hf : zs.length ≤ 1125899906842000) : Arg w (.slice (some ⟨g, 0, none⟩) (zs.length + 4) (zs.length + 4)) (lent zs) := by
  refine ⟨⟨_, _, by rw [lent_length], by rw [lent_length]; omega, by omega, .inr ⟨g, 0, rfl, fun k hk => ?_⟩⟩, lent_limbs hl, by rw [lent_length]; omega, fun n c e => by cases e⟩
  rw [Nat.zero_add, h.cell k hk]

end Go.Proofs.YtppblbhkghjphaaGreatDoor

/- The reference's numbers: Limbs, Is, Len. -/
namespace Go.Proofs.YtppblbhkghjphaaGreatDoor
open Go.RowKit
open Lm

set_option maxRecDepth 20000 in
set_option maxHeartbeats 1000000 in
theorem limbs_any (v : Value) (ds : List Nat) (w : World) (h : Arg w v ds) (hd : Digs 4294967296 ds) (hf : ds.length ≤ 35184372088832) :
    Calls Tryz.prog 34 #[v] w fun e w' => (∃ v', e = .returned v' ∧ Ans w' w.heap.size v' (pairs ds)) ∧ Below w.heap.size w w' := by
  obtain ⟨ao, cap, rfl, hcap, hmax, L1⟩ := h.form
  obtain ⟨i0, hi, hz0, hz1, hz2⟩ := info_parts Tryz.infoU
  have hpl := pairs_length ds
  clear h
  go_enter Tryz.func34, Tryz.ntmps34
  go_wp2
  go_loopw [3, 4] (fun o i wr => ∃ k : Nat, k ≤ (pairs ds).length ∧ i = .int .i64 ((2 * k : Nat) : Int) ∧ wr.ownsRow w.heap.size 32 1 o ((pairs ds).take k).length (((pairs ds).take k).map lv) ∧ Below w.heap.size w wr) (fun _ i _ => ds.length + 2 - (intOf i).toNat)
  case atStart => exact ⟨0, Nat.zero_le _, rfl, World.ownsRow_nil _ _ _ _, Below.refl _ _⟩
  case round =>
    obtain ⟨k, hk, rfl, ho, hbl⟩ := hrel
    have HB := hide hbl
    by_cases hkl : 2 * k < ds.length
    · rcases L1.below hbl with h0 | ⟨b, off, rfl, hcell⟩
      · simp [h0] at hkl
      · have hck := hcell (2 * k) hkl
        have HT := hide (take_snoc (pairs ds) k (by omega))
        have hpg := pairs_getD ds k
        have z1 := dig_lt (by omega) hd (2 * k)
        have z2 := dig_lt (by omega) hd (2 * k + 1)
        by_cases hk2 : 2 * k + 1 < ds.length
        · have hck2 := hcell (2 * k + 1) hk2
          rw [hpg] at HT
          generalize ds.getD (2 * k) 0 = x at *
          generalize ds.getD (2 * k + 1) 0 = y at *
          have i1 : (2 : Int) * (k : Int) + 1 < (ds.length : Int) := by omega
          have e1 : (x : Int) + (y : Int) * 4294967296 = ((x + y * 4294967296 : Nat) : Int) := by omega
          have b1 : x + y * 4294967296 < 18446744073709551616 := by omega
          generalize x + y * 4294967296 = z at *
          clear hcell L1 hbl hd hpg
          go_wp2_with (at_builtin; refine wpList_append_own _ rfl _ _ 23 rfl w.heap.size 32 i0 (.int .u64 0) 1 8 Tryz.underlying23 hi hz0 hz1 hz2 rfl (by decide) _ _ _ rfl (ho.alloc _) ⟨wr.heap.size, 0, none⟩ 1 1 ([z].map lv) rfl rfl (news_cells [z]) (lv_oneCell _) (by simp only [List.length_take]; unfold maxLen; omega) (by simp only [List.length_take]; omega) (by have := HB.out.size; simp; omega) ?_; intro v' w2 hown2 hgrow2 _)
          have HO := hide hown2
          have HB2 := hide ((HB.out.alloc HB.out.size (.cells ([z].map lv).toArray 32)).grown hgrow2 (by have := HB.out.size; simp; omega) (fun k hk => (ho.lt k hk).1))
          clear hown2 hgrow2 ho
          go_wp2
          go_roundw
          case rel =>
            refine ⟨k + 1, by omega, by go_num, ?_, HB2.out⟩
            rw [HT.out, List.length_append, List.map_append]
            exact HO.out
          case measure => simp [intOf]; omega
        · have e0 : ds.getD (2 * k + 1) 0 = 0 := by simp [List.getD, Nat.le_of_not_lt hk2]
          rw [hpg, e0, Nat.zero_mul, Nat.add_zero] at HT
          generalize ds.getD (2 * k) 0 = x at *
          have hd1 : decide ((2 : Int) * (k : Int) + 1 < (ds.length : Int)) = false := decide_eq_false (by omega)
          clear hcell L1 hbl hd hpg e0
          go_wp2_with (at_builtin; refine wpList_append_own _ rfl _ _ 23 rfl w.heap.size 32 i0 (.int .u64 0) 1 8 Tryz.underlying23 hi hz0 hz1 hz2 rfl (by decide) _ _ _ rfl (ho.alloc _) ⟨wr.heap.size, 0, none⟩ 1 1 ([x].map lv) rfl rfl (news_cells [x]) (lv_oneCell _) (by simp only [List.length_take]; unfold maxLen; omega) (by simp only [List.length_take]; omega) (by have := HB.out.size; simp; omega) ?_; intro v' w2 hown2 hgrow2 _)
          have HO := hide hown2
          have HB2 := hide ((HB.out.alloc HB.out.size (.cells ([x].map lv).toArray 32)).grown hgrow2 (by have := HB.out.size; simp; omega) (fun k hk => (ho.lt k hk).1))
          clear hown2 hgrow2 ho
          go_wp2
          go_roundw
          case rel =>
            refine ⟨k + 1, by omega, by go_num, ?_, HB2.out⟩
            rw [HT.out, List.length_append, List.map_append]
            exact HO.out
          case measure => simp [intOf]; omega
    · have ek : k = (pairs ds).length := by omega
      rw [ek, List.take_length] at ho
      have HA : Hid (Ans wr w.heap.size u3 (pairs ds)) := ⟨ho, pairs_limbs ds hd⟩
      clear ho hbl L1 hd
      go_wp2
      go_ret
      exact ⟨⟨_, rfl, HA.out⟩, HB.out⟩

set_option maxRecDepth 20000 in
set_option maxHeartbeats 800000 in
theorem is_true (v u : Value) (x : Nat) (rs : List Nat) (w : World) (hn : Num w v x) (ha : Arg w u rs) (ht : tr rs = rs) (hv : val rs = x) (hf : blen x ≤ 1125899906842624) :
    Calls Tryz.prog 16 #[v, u] w fun e w' => e = .returned (.bool true) ∧ Below w.heap.size w w' := by
  obtain ⟨ds, hd1, hd2, hd3, hd4, hd5⟩ := hn
  have hf2 : ds.length ≤ 35184372088832 := by
    refine Nat.le_of_not_lt fun hlt => ?_
    obtain ⟨n, hn⟩ : ∃ n, ds.length = n + 1 := ⟨ds.length - 1, by omega⟩
    have h1 := blen_vb hd2 hd3 n hn
    have h2 := tr_last' ds n hd3 hn
    have h3 := blen_half _ h2
    rw [hd4] at h1
    omega
  clear hf
  have HL := limbs_any v ds w hd1 hd2 hf2
  have he : pairs ds = rs := norm_inj _ _ (pairs_limbs ds hd2) ha.limbs (pairs_tr ds hd3) ht (by rw [pairs_val, hd4, hv])
  rw [he] at HL
  have hfew := ha.few
  clear he ht hv hd1 hd2 hd3 hd4 hd5 hf2
  go_enter Tryz.func16, Tryz.ntmps16
  go_wp2_with fail
  refine HL.mono ?_
  rintro e w1 ⟨⟨v', rfl, hans⟩, hb⟩
  have A1 := hans.arg hfew
  have A2 := ha.below hb
  have HB := hide hb
  clear HL hans hb ha
  obtain ⟨a1, c1, rfl, hc1, hm1, L1⟩ := A1.form
  obtain ⟨a2, c2, rfl, hc2, hm2, L2⟩ := A2.form
  have hne : ((rs.length : Int) != (rs.length : Int)) = false := by simp
  clear A1 A2
  go_wp2
  go_loopw [16] (fun i wr => ∃ k : Nat, k ≤ rs.length ∧ i = .int .i64 k ∧ Same w1 wr) (fun i _ => rs.length - (intOf i).toNat)
  case atStart => exact ⟨0, Nat.zero_le _, rfl, Same.refl _⟩
  case round =>
    obtain ⟨k, hk, rfl, hs⟩ := hrel
    by_cases hkl : k < rs.length
    · rcases L1.below (hs.below _) with h0 | ⟨b, off, rfl, hcell⟩
      · simp [h0] at hkl
      · rcases L2.below (hs.below _) with h0 | ⟨b', off', rfl, hcell'⟩
        · simp [h0] at hkl
        · have hck := hcell k hkl
          have hck' := hcell' k hkl
          generalize rs.getD k 0 = z at *
          have hne2 : ((z : Int) != (z : Int)) = false := by simp
          have hi1 : (0 : Int) ≤ (k : Int) := by omega
          have hi2 : (k : Int) < (rs.length : Int) := by omega
          have HS := hide hs
          clear hcell hcell' L1 L2 hs
          go_wp2
          go_quiet (fail)
          go_wp2
          go_roundw
          case rel => exact ⟨k + 1, by omega, by go_num, HS.out.drewN _⟩
          case measure => simp [intOf]; omega
    · have HS := hide hs
      clear L1 L2 hs
      go_wp2
      go_ret
      exact ⟨rfl, HB.out.trans (HS.out.below _)⟩

theorem ret_int {k : IntKind} {a b : Int} (h : a = b) : Ending.returned (.int k a) = .returned (.int k b) := by rw [h]

end Go.Proofs.YtppblbhkghjphaaGreatDoor
