/- The reference's numbers: norm, at, Of. -/
import Derived.Test.YtppkhhbhnhijpaaGreatDoorQB
import Derived.Test.YtppkhhbhnhijpaaGreatDoorQA
namespace Go.Proofs.YtppkhhbhnhijpaaGreatDoor
open Go.RowKit
open Lm

/-- A number of the reference: digits of 32 bits, no nought at the top. -/
def Num (w : World) (v : Value) (x : Nat) : Prop := ∃ ds, Arg w v ds ∧ Digs 4294967296 ds ∧ tr ds = ds ∧ vb 4294967296 ds = x ∧ ds.length ≤ 35184372088900

theorem Num.below {w w' : World} {v : Value} {x : Nat} (h : Num w v x) (hb : Below w.heap.size w w') : Num w' v x := by
  obtain ⟨ds, h1, h2⟩ := h
  exact ⟨ds, h1.below hb, h2⟩

theorem Num.nil (w : World) : Num w (.slice none 0 0) 0 :=
  ⟨[], ⟨⟨none, 0, rfl, by simp, by simp, .inl rfl⟩, (by intro z hz; cases hz), by simp, fun n c e => by cases e; rfl⟩, (by intro z hz; cases hz), rfl, rfl, by simp⟩

theorem norm_some (b off cap : Nat) (zs : List Nat) (w : World) (hcap : zs.length ≤ cap) (hmax : cap ≤ 9223372036854775807)
    (hc : ∀ k, k < zs.length → w.cell? ⟨b, off + k, none⟩ = some (.int .u64 ((zs.getD k 0 : Nat) : Int))) :
    Calls Tryz.prog 103 #[.slice (some ⟨b, off, none⟩) zs.length cap] w fun e w' => e = .returned (.slice (some ⟨b, off, none⟩) (tr zs).length (tr zs).length) ∧ w' = w := by
  go_enter Tryz.func103, Tryz.ntmps103
  go_wp2
  go_loop [3] (fun n => ∃ k : Nat, k ≤ zs.length ∧ n = .int .i64 k ∧ tr (zs.take k) = tr zs) (fun n => (intOf n).toNat)
  case atStart => exact ⟨zs.length, Nat.le_refl _, rfl, by rw [List.take_length]⟩
  case round =>
    obtain ⟨k, hk, rfl, ht⟩ := hrel
    have HT := hide ht
    clear ht
    by_cases h0 : k = 0
    · subst h0
      go_wp2
      go_ret
      have e := HT.out
      simp only [List.take_zero, tr] at e
      rw [← e]
      exact ⟨rfl, rfl⟩
    · obtain ⟨j, rfl⟩ : ∃ j, k = j + 1 := ⟨k - 1, by omega⟩
      have hcj := hc j (by omega)
      clear hc
      by_cases hz : zs.getD j 0 = 0
      · have HZ : Hid (tr (zs.take j) = tr zs) := by rw [← tr_step zs j (by omega) hz]; exact HT.out
        rw [hz] at hcj
        clear hz HT
        go_wp2
        go_round
        case rel => exact ⟨j, by omega, by go_num, HZ.out⟩
        case measure => simp [intOf]
      · have HZ : Hid (tr zs = zs.take (j + 1)) := by rw [← HT.out]; exact tr_stop zs j (by omega) hz
        clear HT
        generalize zs.getD j 0 = z at hcj hz
        have hne : ((z : Int) == 0) = false := by rw [beq_eq_false_iff_ne]; omega
        clear hz
        go_wp2
        go_ret
        rw [HZ.out]
        have e : (zs.take (j + 1)).length = j + 1 := by simp; omega
        rw [e]
        exact ⟨rfl, rfl⟩

theorem norm_none (ao : Option Addr) (cap : Nat) (w : World) (_hmax : cap ≤ 9223372036854775807) :
    Calls Tryz.prog 103 #[.slice ao 0 cap] w fun e w' => e = .returned (.slice ao 0 0) ∧ w' = w := by
  go_enter Tryz.func103, Tryz.ntmps103
  go_wp2
  refine wp_loop_rounds 1 ?_
  rw [rounds_succ]
  go_wp2
  go_ret
  exact ⟨rfl, rfl⟩

/-- Whatever limbs the value has lie from block B on. -/
def New (B : Nat) (v : Value) : Prop := ∀ b off n c, v = .slice (some ⟨b, off, none⟩) n c → B ≤ b

theorem New.nil (B n c : Nat) : New B (.slice none n c) := fun _ _ _ _ e => by cases e

theorem New.at (B b off n c : Nat) (h : B ≤ b) : New B (.slice (some ⟨b, off, none⟩) n c) := fun _ _ _ _ e => by cases e; exact h

theorem New.mono {B B' : Nat} {v : Value} (h : New B v) (hb : B' ≤ B) : New B' v := fun b off n c e => Nat.le_trans hb (h b off n c e)

/-- A store elsewhere leaves a number as it is. -/
theorem Num.store {w : World} {v : Value} {x g j : Nat} {u : Value} (h : Num w v x) (hn : New (g + 1) v) : Num (w.setCell ⟨g, j, none⟩ u) v x := by
  obtain ⟨ds, hA, hr⟩ := h
  refine ⟨ds, ?_, hr⟩
  obtain ⟨ao, cap, h1, h2, h3, h4⟩ := hA.form
  refine ⟨⟨ao, cap, h1, h2, h3, ?_⟩, hA.limbs, hA.few, hA.nz⟩
  rcases h4 with h4 | ⟨b, off, rfl, hc⟩
  · exact .inl h4
  · have hb := hn b off _ _ h1
    refine .inr ⟨b, off, rfl, fun k hk => ?_⟩
    rw [World.cell?_of_block (w := w) (Below.heap_setCell w ⟨g, j, none⟩ u b (by show b ≠ g; omega))]
    exact hc k hk

theorem norm_new (B : Nat) (v : Value) (ds : List Nat) (w : World) (h : Arg w v ds) (hd : Digs 4294967296 ds) (hl : ds.length ≤ 35184372088900) (hB : New B v) :
    Calls Tryz.prog 103 #[v] w fun e w' => (∃ v', e = .returned v' ∧ Num w v' (vb 4294967296 ds) ∧ New B v') ∧ w' = w := by
  obtain ⟨ao, cap, rfl, hcap, hmax, hlies⟩ := h.form
  have hle := tr_length_le ds
  have H : Calls Tryz.prog 103 #[.slice ao ds.length cap] w fun e w' => e = .returned (.slice ao (tr ds).length (tr ds).length) ∧ w' = w := by
    rcases hlies with rfl | ⟨b, off, rfl, hc⟩
    · exact norm_none ao cap w hmax
    · exact norm_some b off cap ds w hcap hmax hc
  refine H.mono ?_
  rintro e w' ⟨rfl, rfl⟩
  refine ⟨⟨_, rfl, ⟨tr ds, ⟨⟨ao, _, rfl, Nat.le_refl _, by omega, hlies.tr⟩, limbs_tr h.limbs, by omega, ?_⟩, digs_tr hd, tr_tr ds, vb_tr ds, by omega⟩, fun b off n c e => ?_⟩, rfl⟩
  rotate_left
  · cases e; exact hB b off _ _ rfl
  intro n c e
  cases e
  have := h.nz _ _ rfl
  omega

theorem norm_any (v : Value) (ds : List Nat) (w : World) (h : Arg w v ds) (hd : Digs 4294967296 ds) (hl : ds.length ≤ 35184372088900) :
    Calls Tryz.prog 103 #[v] w fun e w' => (∃ v', e = .returned v' ∧ Num w v' (vb 4294967296 ds)) ∧ w' = w :=
  (norm_new 0 v ds w h hd hl (fun _ _ _ _ _ => Nat.zero_le _)).mono fun _ _ ⟨⟨v', h1, h2, _⟩, h3⟩ => ⟨⟨v', h1, h2⟩, h3⟩

/-- A digit, or nought beyond the top. -/
theorem at_any (v : Value) (zs : List Nat) (i : Nat) (w : World) (h : Arg w v zs) :
    Calls Tryz.prog 111 #[v, .int .i64 i] w fun e w' => e = .returned (.int .u64 ((zs.getD i 0 : Nat) : Int)) ∧ w' = w := by
  obtain ⟨ao, cap, rfl, hcap, hmax, hl⟩ := h.form
  by_cases hi : i < zs.length
  · rcases hl with rfl | ⟨b, off, rfl, hc⟩
    · simp at hi
    · have hci := hc i hi
      clear hc h
      generalize zs.getD i 0 = z at hci ⊢
      go_enter Tryz.func111, Tryz.ntmps111
      go_wp2
      go_ret
      exact ⟨rfl, rfl⟩
  · have e : zs.getD i 0 = 0 := by simp [List.getD, Nat.le_of_not_lt hi]
    rw [e]
    clear hl e h
    go_enter Tryz.func111, Tryz.ntmps111
    go_wp2
    go_ret
    exact ⟨rfl, rfl⟩

end Go.Proofs.YtppkhhbhnhijpaaGreatDoor

/- The reference's numbers: Of. -/
namespace Go.Proofs.YtppkhhbhnhijpaaGreatDoor
open Go.RowKit
open Lm

theorem news_cells {w : World} (l : List Nat) (j : Nat) (u : Value) (hj : (l.map lv)[j]? = some u) : (w.alloc (.cells (l.map lv).toArray 108)).cell? ((⟨w.heap.size, 0, none⟩ : Addr).add j) = some u := by
  have e : (⟨w.heap.size, 0, none⟩ : Addr).add j = ⟨w.heap.size, j, none⟩ := by
    unfold Addr.add; split <;> simp_all
  rw [e]
  simp only [World.cell?, heap_alloc_new]
  simpa using hj

theorem lv_oneCell (zs : List Nat) : ∀ u ∈ zs.map lv, u.oneCell' = true := by
  intro u hu
  obtain ⟨z, _, rfl⟩ := List.mem_map.1 hu
  rfl

set_option maxHeartbeats 800000 in
theorem of_any (v : Value) (zs : List Nat) (w : World) (h : Arg w v zs) (hf : zs.length ≤ 17592186044416) :
    Calls Tryz.prog 89 #[v] w fun e w' => (∃ v', e = .returned v' ∧ Num w' v' (val zs)) ∧ Below w.heap.size w w' := by
  obtain ⟨ao, cap, rfl, hcap, hmax, L1⟩ := h.form
  have M1 := h.limbs
  obtain ⟨i0, hi, hz0, hz1, hz2⟩ := info_parts Tryz.infoU
  clear h
  go_enter Tryz.func89, Tryz.ntmps89
  go_wp2_with (at_make; refine wpList_make_own _ rfl _ _ 41 rfl w.heap.size 108 i0 (.int .u64 0) 1 Tryz.underlying41 hi hz0 hz1 .i64 .i64 _ (2 * zs.length) rfl rfl (by omega) (by rw [hz2]; omega) (by unfold maxLen; omega) (Nat.le_refl _) ?_; intro w1 hown hgrow)
  have hbel : Below w.heap.size w w1 := (Below.refl _ _).grown hgrow (Nat.le_refl _) (fun k hk => by cases hk)
  have hsz : w.heap.size < w1.heap.size := by
    have := hown.lt w.heap.size rfl
    exact this.2
  clear hgrow hz0 hz2
  go_loopw [3, 12] (fun o i wr => ∃ k : Nat, k ≤ zs.length ∧ i = .int .i64 k ∧ o = .slice (some ⟨w.heap.size, 0, none⟩) (2 * k) (2 * zs.length) ∧ wr.ownsRow w.heap.size 108 1 (.slice (some ⟨w.heap.size, 0, none⟩) (2 * k) (2 * zs.length)) (2 * k) ((halves (zs.take k)).map lv) ∧ Below w.heap.size w wr) (fun _ i _ => zs.length - (intOf i).toNat)
  case atStart => exact ⟨0, Nat.zero_le _, rfl, rfl, hown, hbel⟩
  case round =>
    obtain ⟨k, hk, rfl, rfl, ho, hbl⟩ := hrel
    clear hown hbel
    by_cases hkl : k < zs.length
    · rcases L1.below hbl with h0 | ⟨b, off, rfl, hcell⟩
      · simp [h0] at hkl
      · have hck := hcell k hkl
        have z1 := limb_lt M1 k
        have HT := hide (halves_take zs k hkl)
        generalize zs.getD k 0 = z at *
        have e1 : (z : Int) % 4294967296 = ((z % 4294967296 : Nat) : Int) := by omega
        have e2 : (z : Int) / 4294967296 = ((z / 4294967296 : Nat) : Int) := by omega
        have b1 : z % 4294967296 < 4294967296 := by omega
        have b2 : z / 4294967296 < 4294967296 := by omega
        generalize z % 4294967296 = lo at *
        generalize z / 4294967296 = hh at *
        have HB := hide hbl
        clear hcell L1 M1 hbl
        go_wp2_with (at_builtin; refine wpList_append_fits _ rfl _ _ 41 rfl w.heap.size 108 i0 1 Tryz.underlying41 hi hz1 w.heap.size (2 * k) (2 * zs.length) _ rfl (ho.alloc _) ⟨wr.heap.size, 0, none⟩ 2 2 ([lo, hh].map lv) rfl rfl (news_cells [lo, hh]) (lv_oneCell _) (by omega) ?_; intro w2 hown2 hgrow2)
        have HO := hide hown2
        have HB2 := hide ((HB.out.alloc HB.out.size (.cells ([lo, hh].map lv).toArray 108)).grown hgrow2 (by have := HB.out.size; simp; omega) (fun k hk => by cases hk; exact Nat.le_refl _))
        clear hown2 hgrow2 ho hck
        go_wp2
        go_roundw
        case rel =>
          refine ⟨k + 1, by omega, by go_num, rfl, ?_, HB2.out⟩
          rw [HT.out, List.map_append]
          exact HO.out
        case measure => simp [intOf]; omega
    · have ek : k = zs.length := by omega
      subst ek
      rw [List.take_length] at ho
      have el := halves_length zs
      have hA : Ans wr w.heap.size (.slice (some ⟨w.heap.size, 0, none⟩) (2 * zs.length) (2 * zs.length)) (halves zs) := ⟨by rw [el]; exact ho, digs_limbs (halves_digs M1)⟩
      have H := norm_any _ _ _ (hA.arg (by omega)) (halves_digs M1) (by omega)
      rw [halves_val] at H
      have HB := hide hbl
      clear ho hA hbl L1 M1
      go_wp2_with fail
      refine H.mono ?_
      rintro e w2 ⟨⟨v', rfl, hnum⟩, rfl⟩
      have HN := hide hnum
      clear hnum H
      go_wp2
      go_ret
      exact ⟨⟨v', rfl, HN.out⟩, HB.out⟩

end Go.Proofs.YtppkhhbhnhijpaaGreatDoor

/- The reference's lent memory: Lend, Kept. -/
namespace Go.Proofs.YtppkhhbhnhijpaaGreatDoor
open Go.RowKit
open Lm

/-- A list in the middle of greater memory. -/
def lent (zs : List Nat) : List Nat := 10855845 :: 10855845 :: (zs ++ [10855845, 10855845])

theorem lent_length (zs : List Nat) : (lent zs).length = zs.length + 4 := by simp [lent]

theorem lent_mid (zs : List Nat) (k : Nat) (h : k < zs.length) : (lent zs).getD (k + 2) 0 = zs.getD k 0 := by
  simp [lent, List.getD, h, List.getElem?_append_left h]

theorem lent_low (zs : List Nat) (k : Nat) (h : k < 2) : (lent zs).getD k 0 = 10855845 := by
  match k, h with
  | 0, _ => rfl
  | 1, _ => rfl

theorem lent_high (zs : List Nat) (k : Nat) (h1 : zs.length + 2 ≤ k) (h2 : k < zs.length + 4) : (lent zs).getD k 0 = 10855845 := by
  obtain ⟨j, rfl⟩ : ∃ j, k = zs.length + j + 2 := ⟨k - 2 - zs.length, by omega⟩
  match j, show j < 2 by omega with
  | 0, _ => simp [lent, List.getD]
  | 1, _ => simp [lent, List.getD]

theorem lent_limbs {zs : List Nat} (h : Limbs zs) : Limbs (lent zs) := by
  intro z hz
  simp only [lent, List.mem_cons, List.mem_append, List.not_mem_nil, or_false] at hz
  rcases hz with rfl | rfl | hz | rfl | rfl
  · omega
  · omega
  · exact h z hz
  · omega
  · omega

theorem set_mid (a b : List Nat) (x y : Nat) : (a ++ x :: b).set a.length y = (a ++ [y]) ++ b := by
  simp

/-- While the memory is filled. -/
def fillTo (m k : Nat) : List Nat := List.replicate k 10855845 ++ List.replicate (m - k) 0

theorem fillTo_set (m k : Nat) (h : k < m) : (fillTo m k).set k 10855845 = fillTo m (k + 1) := by
  unfold fillTo
  have e : m - k = (m - (k + 1)) + 1 := by omega
  rw [e, List.replicate_succ]
  have := set_mid (List.replicate k 10855845) (List.replicate (m - (k + 1)) 0) 0 10855845
  rw [List.length_replicate] at this
  rw [this, ← List.replicate_succ']

theorem fillTo_length (m k : Nat) (h : k ≤ m) : (fillTo m k).length = m := by
  simp [fillTo]; omega

/-- While the list is laid into it. -/
def lentTo (zs : List Nat) (k : Nat) : List Nat := 10855845 :: 10855845 :: (zs.take k ++ List.replicate (zs.length - k + 2) 10855845)

theorem lentTo_set (zs : List Nat) (k : Nat) (h : k < zs.length) : (lentTo zs k).set (k + 2) (zs.getD k 0) = lentTo zs (k + 1) := by
  unfold lentTo
  have e : zs.length - k + 2 = (zs.length - (k + 1) + 2) + 1 := by omega
  rw [e, List.replicate_succ]
  have := set_mid (zs.take k) (List.replicate (zs.length - (k + 1) + 2) 10855845) 10855845 (zs.getD k 0)
  have el : (zs.take k).length = k := by simp; omega
  rw [el] at this
  simp only [List.set_cons_succ]
  rw [this, take_snoc zs k h]

theorem lentTo_length (zs : List Nat) (k : Nat) (h : k ≤ zs.length) : (lentTo zs k).length = zs.length + 4 := by
  simp [lentTo]; omega

theorem lentTo_start (zs : List Nat) : lentTo zs 0 = fillTo (zs.length + 4) (zs.length + 4) := by
  simp [lentTo, fillTo, List.replicate_succ]

theorem lentTo_end (zs : List Nat) : lentTo zs zs.length = lent zs := by
  simp [lentTo, lent, List.replicate_succ]

theorem part_arg {w : World} {g : Nat} {zs : List Nat} (h : Blk w g (lent zs)) (hl : Limbs zs) (hf : zs.length ≤ 1125899906842000) : Arg w (.slice (some ⟨g, 2, none⟩) zs.length (zs.length + 2)) zs := by
  refine ⟨⟨_, _, rfl, by omega, by omega, .inr ⟨g, 2, rfl, fun k hk => ?_⟩⟩, hl, by omega, fun n c e => by cases e⟩
  rw [Nat.add_comm 2 k, h.cell (k + 2) (by rw [lent_length]; omega), lent_mid zs k hk]

theorem whole_arg {w : World} {g : Nat} {zs : List Nat} (h : Blk w g (lent zs)) (hl : Limbs zs) (hf : zs.length ≤ 1125899906842000) : Arg w (.slice (some ⟨g, 0, none⟩) (zs.length + 4) (zs.length + 4)) (lent zs) := by
  refine ⟨⟨_, _, by rw [lent_length], by rw [lent_length]; omega, by omega, .inr ⟨g, 0, rfl, fun k hk => ?_⟩⟩, lent_limbs hl, by rw [lent_length]; omega, fun n c e => by cases e⟩
  rw [Nat.zero_add, h.cell k hk]

set_option maxHeartbeats 800000 in
theorem lend_any (v : Value) (zs : List Nat) (w : World) (h : Arg w v zs) (hf : zs.length ≤ 35184372088000) :
    Calls Tryz.prog 60 #[v] w fun e w' => e = .returned (.tuple #[.slice (some ⟨w.heap.size, 0, none⟩) (zs.length + 4) (zs.length + 4), .slice (some ⟨w.heap.size, 2, none⟩) zs.length (zs.length + 2)]) ∧ Blk w' w.heap.size (lent zs) ∧ Below w.heap.size w w' := by
  obtain ⟨ao, cap, rfl, hcap, hmax, L1⟩ := h.form
  obtain ⟨i0, hi, hz0, hz1, hz2⟩ := info_parts Tryz.infoU
  clear h
  go_enter Tryz.func60, Tryz.ntmps60
  go_wp2_with (at_make; refine wpList_make_full _ rfl _ _ 22 rfl w.heap.size 108 i0 (.int .u64 0) 1 Tryz.underlying22 hi hz0 hz1 .i64 .i64 _ _ (zs.length + 4) rfl rfl (by omega) (by omega) (by rw [hz2]; omega) (by unfold maxLen; omega) (Nat.le_refl _) ?_; intro w1 hown hgrow)
  have hb1 := Blk.made hown
  have hbel : Below w.heap.size w w1 := (Below.refl _ _).grown hgrow (Nat.le_refl _) (fun k hk => by cases hk)
  clear hown hgrow hi hz0 hz1 hz2
  go_loopw [14] (fun i wr => ∃ k : Nat, k ≤ zs.length + 4 ∧ i = .int .i64 k ∧ Blk wr w.heap.size (fillTo (zs.length + 4) k) ∧ Below w.heap.size w wr) (fun i _ => zs.length + 4 - (intOf i).toNat)
  case atStart => exact ⟨0, Nat.zero_le _, rfl, hb1, hbel⟩
  case round =>
    obtain ⟨k, hk, rfl, hblk, hbl⟩ := hrel
    clear hb1 hbel
    by_cases hkl : k < zs.length + 4
    · have hfr := hblk.free k
      have hco := hblk.cell k (by rw [fillTo_length _ _ hk]; exact hkl)
      generalize (fillTo (zs.length + 4) k).getD k 0 = o at *
      have HB := hide (hblk.set k 10855845)
      have HL := hide (hbl.setCell (p := ⟨w.heap.size, k, none⟩) (Nat.le_refl _) (.int .u64 10855845))
      clear hblk hbl L1
      go_wp2
      go_roundw
      case rel => exact ⟨k + 1, by omega, by go_num, by rw [← fillTo_set _ _ hkl]; exact HB.out, HL.out⟩
      case measure => simp [intOf]; omega
    · have ek : k = zs.length + 4 := by omega
      subst ek
      have HB := hide hblk
      have HL := hide hbl
      clear hblk hbl
      go_wp2
      go_loopw [23] (fun i wr => ∃ k : Nat, k ≤ zs.length ∧ i = .int .i64 k ∧ Blk wr w.heap.size (lentTo zs k) ∧ Below w.heap.size w wr) (fun i _ => zs.length - (intOf i).toNat)
      case atStart => exact ⟨0, Nat.zero_le _, rfl, by rw [lentTo_start]; exact HB.out, HL.out⟩
      case round =>
        obtain ⟨k, hk, rfl, hblk, hbl⟩ := hrel
        clear HB HL
        by_cases hkl' : k < zs.length
        · rcases L1.below hbl with h0 | ⟨b, off, rfl, hcell⟩
          · simp [h0] at hkl'
          · have hck := hcell k hkl'
            have hbw := Lies.block (L1 : Lies w (some ⟨b, off, none⟩) zs) (by omega)
            have hne1 : ¬ b = w.heap.size := by omega
            have hne2 : ¬ w.heap.size = b := by omega
            have hfr := hblk.free (k + 2)
            have hco := hblk.cell (k + 2) (by rw [lentTo_length _ _ hk]; omega)
            generalize (lentTo zs k).getD (k + 2) 0 = o at *
            have HS := hide (lentTo_set zs k hkl')
            have HB := hide (fun z => hblk.set (k + 2) z)
            have HL := hide hbl
            generalize zs.getD k 0 = z at *
            clear hcell hblk hbl L1
            go_wp2
            go_roundw
            case rel => exact ⟨k + 1, by omega, by go_num, by rw [← HS.out]; exact HB.out z, HL.out.setCell (Nat.le_refl _) _⟩
            case measure => simp [intOf]; omega
        · have ek : k = zs.length := by omega
          subst ek
          rw [lentTo_end] at hblk
          have HB := hide hblk
          have HL := hide hbl
          have hi1 : (0 : Int) ≤ (zs.length : Int) := by omega
          clear hblk hbl L1
          go_wp2
          go_quiet (fail)
          go_wp2
          go_ret2
          exact ⟨rfl, HB.out, ((HL.out).trans ((Same.refl _).drewN _ |>.below _))⟩

set_option maxHeartbeats 800000 in
theorem kept_any (g : Nat) (va : Value) (zs : List Nat) (w : World) (hb : Blk w g (lent zs)) (ha : Arg w va zs) (hf : zs.length ≤ 35184372088000) :
    Calls Tryz.prog 32 #[.slice (some ⟨g, 0, none⟩) (zs.length + 4) (zs.length + 4), va] w fun e w' => e = .returned (.bool true) ∧ w' = w := by
  obtain ⟨ao, cap, rfl, hcap, hmax, L1⟩ := ha.form
  have hn : ((zs.length : Int) + 4 != (zs.length : Int) + 4) = false := by simp
  clear ha
  go_enter Tryz.func32, Tryz.ntmps32
  go_wp2
  go_loop [15] (fun i => ∃ k : Nat, k ≤ zs.length + 4 ∧ i = .int .i64 k) (fun i => zs.length + 4 - (intOf i).toNat)
  case atStart => exact ⟨0, Nat.zero_le _, rfl⟩
  case round =>
    obtain ⟨k, hk, rfl⟩ := hrel
    by_cases hkl : k < zs.length + 4
    · have hck := hb.cell k (by rw [lent_length]; exact hkl)
      by_cases h2 : k < 2
      · rw [lent_low zs k h2] at hck
        have i1 : (k : Int) < 2 := by omega
        clear hb L1
        go_wp2
        go_round
        case rel => exact ⟨k + 1, by omega, by go_num⟩
        case measure => simp [intOf]; omega
      · by_cases h3 : zs.length + 2 ≤ k
        · rw [lent_high zs k h3 hkl] at hck
          have hd1 : decide ((k : Int) < 2) = false := decide_eq_false (by omega)
          have i2 : (zs.length : Int) + 2 ≤ (k : Int) := by omega
          clear hb L1
          go_wp2
          go_round
          case rel => exact ⟨k + 1, by omega, by go_num⟩
          case measure => simp [intOf]; omega
        · obtain ⟨j, rfl⟩ : ∃ j, k = j + 2 := ⟨k - 2, by omega⟩
          rw [lent_mid zs j (by omega)] at hck
          rcases L1 with h0 | ⟨b, off, rfl, hcell⟩
          · simp [h0] at h3
          · have hcj := hcell j (by omega)
            generalize zs.getD j 0 = z at *
            have hne : ((z : Int) != (z : Int)) = false := by simp
            have i1 : ((j + 2 : Nat) : Int) = (j : Int) + 2 := by omega
            have hd1 : decide ((j : Int) + 2 < 2) = false := decide_eq_false (by omega)
            have hd2 : decide ((zs.length : Int) + 2 ≤ (j : Int) + 2) = false := decide_eq_false (by omega)
            have i3 : (j : Int) < (zs.length : Int) := by omega
            clear hb hcell
            go_wp2
            go_round
            case rel => exact ⟨j + 2 + 1, by omega, by go_num⟩
            case measure => simp [intOf]; omega
    · clear hb L1
      go_wp2
      go_ret
      exact ⟨rfl, rfl⟩

end Go.Proofs.YtppkhhbhnhijpaaGreatDoor

/- The reference's numbers: Limbs, Is, Len. -/
namespace Go.Proofs.YtppkhhbhnhijpaaGreatDoor
open Go.RowKit
open Lm

set_option maxRecDepth 20000 in
set_option maxHeartbeats 1000000 in
theorem limbs_any (v : Value) (ds : List Nat) (w : World) (h : Arg w v ds) (hd : Digs 4294967296 ds) (hf : ds.length ≤ 35184372088832) :
    Calls Tryz.prog 131 #[v] w fun e w' => (∃ v', e = .returned v' ∧ Ans w' w.heap.size v' (pairs ds)) ∧ Below w.heap.size w w' := by
  obtain ⟨ao, cap, rfl, hcap, hmax, L1⟩ := h.form
  obtain ⟨i0, hi, hz0, hz1, hz2⟩ := info_parts Tryz.infoU
  have hpl := pairs_length ds
  clear h
  go_enter Tryz.func131, Tryz.ntmps131
  go_wp2
  go_loopw [3, 4] (fun o i wr => ∃ k : Nat, k ≤ (pairs ds).length ∧ i = .int .i64 ((2 * k : Nat) : Int) ∧ wr.ownsRow w.heap.size 108 1 o ((pairs ds).take k).length (((pairs ds).take k).map lv) ∧ Below w.heap.size w wr) (fun _ i _ => ds.length + 2 - (intOf i).toNat)
  case atStart => exact ⟨0, Nat.zero_le _, rfl, World.ownsRow_nil _ _ _ _, Below.refl _ _⟩
  case round =>
    obtain ⟨k, hk, rfl, ho, hbl⟩ := hrel
    have HB := hide hbl
    by_cases hkl : 2 * k < ds.length
    · rcases L1.below hbl with h0 | ⟨b, off, rfl, hcell⟩
      · simp [h0] at hkl
      · have hck := hcell (2 * k) hkl
        have HT := hide (take_snoc (pairs ds) k (by omega))
        have hpg := pairs_getD ds k
        have z1 := dig_lt (by omega) hd (2 * k)
        have z2 := dig_lt (by omega) hd (2 * k + 1)
        by_cases hk2 : 2 * k + 1 < ds.length
        · have hck2 := hcell (2 * k + 1) hk2
          rw [hpg] at HT
          generalize ds.getD (2 * k) 0 = x at *
          generalize ds.getD (2 * k + 1) 0 = y at *
          have i1 : (2 : Int) * (k : Int) + 1 < (ds.length : Int) := by omega
          have e1 : (x : Int) + (y : Int) * 4294967296 = ((x + y * 4294967296 : Nat) : Int) := by omega
          have b1 : x + y * 4294967296 < 18446744073709551616 := by omega
          generalize x + y * 4294967296 = z at *
          clear hcell L1 hbl hd hpg
          go_wp2_with (at_builtin; refine wpList_append_own _ rfl _ _ 22 rfl w.heap.size 108 i0 (.int .u64 0) 1 8 Tryz.underlying22 hi hz0 hz1 hz2 rfl (by decide) _ _ _ rfl (ho.alloc _) ⟨wr.heap.size, 0, none⟩ 1 1 ([z].map lv) rfl rfl (news_cells [z]) (lv_oneCell _) (by simp only [List.length_take]; unfold maxLen; omega) (by simp only [List.length_take]; omega) (by have := HB.out.size; simp; omega) ?_; intro v' w2 hown2 hgrow2 _)
          have HO := hide hown2
          have HB2 := hide ((HB.out.alloc HB.out.size (.cells ([z].map lv).toArray 108)).grown hgrow2 (by have := HB.out.size; simp; omega) (fun k hk => (ho.lt k hk).1))
          clear hown2 hgrow2 ho
          go_wp2
          go_roundw
          case rel =>
            refine ⟨k + 1, by omega, by go_num, ?_, HB2.out⟩
            rw [HT.out, List.length_append, List.map_append]
            exact HO.out
          case measure => simp [intOf]; omega
        · have e0 : ds.getD (2 * k + 1) 0 = 0 := by simp [List.getD, Nat.le_of_not_lt hk2]
          rw [hpg, e0, Nat.zero_mul, Nat.add_zero] at HT
          generalize ds.getD (2 * k) 0 = x at *
          have hd1 : decide ((2 : Int) * (k : Int) + 1 < (ds.length : Int)) = false := decide_eq_false (by omega)
          clear hcell L1 hbl hd hpg e0
          go_wp2_with (at_builtin; refine wpList_append_own _ rfl _ _ 22 rfl w.heap.size 108 i0 (.int .u64 0) 1 8 Tryz.underlying22 hi hz0 hz1 hz2 rfl (by decide) _ _ _ rfl (ho.alloc _) ⟨wr.heap.size, 0, none⟩ 1 1 ([x].map lv) rfl rfl (news_cells [x]) (lv_oneCell _) (by simp only [List.length_take]; unfold maxLen; omega) (by simp only [List.length_take]; omega) (by have := HB.out.size; simp; omega) ?_; intro v' w2 hown2 hgrow2 _)
          have HO := hide hown2
          have HB2 := hide ((HB.out.alloc HB.out.size (.cells ([x].map lv).toArray 108)).grown hgrow2 (by have := HB.out.size; simp; omega) (fun k hk => (ho.lt k hk).1))
          clear hown2 hgrow2 ho
          go_wp2
          go_roundw
          case rel =>
            refine ⟨k + 1, by omega, by go_num, ?_, HB2.out⟩
            rw [HT.out, List.length_append, List.map_append]
            exact HO.out
          case measure => simp [intOf]; omega
    · have ek : k = (pairs ds).length := by omega
      rw [ek, List.take_length] at ho
      have HA : Hid (Ans wr w.heap.size u3 (pairs ds)) := ⟨ho, pairs_limbs ds hd⟩
      clear ho hbl L1 hd
      go_wp2
      go_ret
      exact ⟨⟨_, rfl, HA.out⟩, HB.out⟩

set_option maxRecDepth 20000 in
set_option maxHeartbeats 800000 in
theorem is_true (v u : Value) (x : Nat) (rs : List Nat) (w : World) (hn : Num w v x) (ha : Arg w u rs) (ht : tr rs = rs) (hv : val rs = x) (hf : blen x ≤ 1125899906842624) :
    Calls Tryz.prog 112 #[v, u] w fun e w' => e = .returned (.bool true) ∧ Below w.heap.size w w' := by
  obtain ⟨ds, hd1, hd2, hd3, hd4, hd5⟩ := hn
  have hf2 : ds.length ≤ 35184372088832 := by
    refine Nat.le_of_not_lt fun hlt => ?_
    obtain ⟨n, hn⟩ : ∃ n, ds.length = n + 1 := ⟨ds.length - 1, by omega⟩
    have h1 := blen_vb hd2 hd3 n hn
    have h2 := tr_last' ds n hd3 hn
    have h3 := blen_half _ h2
    rw [hd4] at h1
    omega
  clear hf
  have HL := limbs_any v ds w hd1 hd2 hf2
  have he : pairs ds = rs := norm_inj _ _ (pairs_limbs ds hd2) ha.limbs (pairs_tr ds hd3) ht (by rw [pairs_val, hd4, hv])
  rw [he] at HL
  have hfew := ha.few
  clear he ht hv hd1 hd2 hd3 hd4 hd5 hf2
  go_enter Tryz.func112, Tryz.ntmps112
  go_wp2_with fail
  refine HL.mono ?_
  rintro e w1 ⟨⟨v', rfl, hans⟩, hb⟩
  have A1 := hans.arg hfew
  have A2 := ha.below hb
  have HB := hide hb
  clear HL hans hb ha
  obtain ⟨a1, c1, rfl, hc1, hm1, L1⟩ := A1.form
  obtain ⟨a2, c2, rfl, hc2, hm2, L2⟩ := A2.form
  have hne : ((rs.length : Int) != (rs.length : Int)) = false := by simp
  clear A1 A2
  go_wp2
  go_loopw [16] (fun i wr => ∃ k : Nat, k ≤ rs.length ∧ i = .int .i64 k ∧ Same w1 wr) (fun i _ => rs.length - (intOf i).toNat)
  case atStart => exact ⟨0, Nat.zero_le _, rfl, Same.refl _⟩
  case round =>
    obtain ⟨k, hk, rfl, hs⟩ := hrel
    by_cases hkl : k < rs.length
    · rcases L1.below (hs.below _) with h0 | ⟨b, off, rfl, hcell⟩
      · simp [h0] at hkl
      · rcases L2.below (hs.below _) with h0 | ⟨b', off', rfl, hcell'⟩
        · simp [h0] at hkl
        · have hck := hcell k hkl
          have hck' := hcell' k hkl
          generalize rs.getD k 0 = z at *
          have hne2 : ((z : Int) != (z : Int)) = false := by simp
          have hi1 : (0 : Int) ≤ (k : Int) := by omega
          have hi2 : (k : Int) < (rs.length : Int) := by omega
          have HS := hide hs
          clear hcell hcell' L1 L2 hs
          go_wp2
          go_quiet (fail)
          go_wp2
          go_roundw
          case rel => exact ⟨k + 1, by omega, by go_num, HS.out.drewN _⟩
          case measure => simp [intOf]; omega
    · have HS := hide hs
      clear L1 L2 hs
      go_wp2
      go_ret
      exact ⟨rfl, HB.out.trans (HS.out.below _)⟩

theorem ret_int {k : IntKind} {a b : Int} (h : a = b) : Ending.returned (.int k a) = .returned (.int k b) := by rw [h]

set_option maxRecDepth 20000 in
set_option maxHeartbeats 800000 in
theorem len_any (v : Value) (x : Nat) (w : World) (hn : Num w v x) :
    Calls Tryz.prog 76 #[v] w fun e w' => e = .returned (.int .i64 ((blen x : Nat) : Int)) ∧ w' = w := by
  obtain ⟨ds, hd1, hd2, hd3, rfl, hd5⟩ := hn
  obtain ⟨ao, cap, rfl, hcap, hmax, L1⟩ := hd1.form
  clear hd1
  by_cases h0 : ds.length = 0
  · have hz : ds = [] := List.length_eq_zero_iff.1 h0
    subst hz
    have e : blen (vb 4294967296 []) = 0 := rfl
    rw [e]
    clear L1 hd2 hd3 hd5 h0
    go_enter Tryz.func76, Tryz.ntmps76
    go_wp2
    go_ret
    exact ⟨rfl, rfl⟩
  · obtain ⟨n, hn⟩ : ∃ n, ds.length = n + 1 := ⟨ds.length - 1, by omega⟩
    rcases L1 with hz | ⟨b, off, rfl, hcell⟩
    · simp [hz] at h0
    · have hcn := hcell n (by omega)
      rw [blen_vb hd2 hd3 n hn]
      have hdl := dig_lt (by omega) hd2 n
      rw [hn] at hd5 ⊢
      have hz : (((n + 1 : Nat) : Int) == 0) = false := by rw [beq_eq_false_iff_ne]; omega
      have hz' : ((n : Int) + 1 == 0) = false := by rw [beq_eq_false_iff_ne]; omega
      generalize ds.getD n 0 = d at *
      have hbd : blen d ≤ 32 := (blen_le_iff d 32).2 hdl
      clear hcell hd2 hd3 h0 hn hcap
      go_enter Tryz.func76, Tryz.ntmps76
      go_wp2
      go_loop [3, 4] (fun a b => ∃ m y : Nat, a = .int .i64 m ∧ b = .int .u64 y ∧ m + blen y = 32 * n + blen d ∧ y < 4294967296) (fun _ b => (intOf b).toNat)
      case atStart => exact ⟨32 * n, d, by go_num, rfl, rfl, hdl⟩
      case round =>
        obtain ⟨m, y, rfl, rfl, hm, hy⟩ := hrel
        by_cases hy0 : y = 0
        · subst hy0
          have HM := hide hm
          have e0 : blen 0 = 0 := rfl
          have HM2 : Hid (m = 32 * n + blen d) := hide (by have := HM.out; rw [e0] at this; exact this)
          clear hm HM e0
          go_wp2
          go_ret
          exact ⟨ret_int (by have := HM2.out; omega), rfl⟩
        · have hb2 := blen_half y hy0
          have HM : Hid (m + 1 + blen (y / 2) = 32 * n + blen d) := hide (by omega)
          have hmb : m ≤ 32 * n + 32 := by omega
          have e1 : (y : Int) / 2 = ((y / 2 : Nat) : Int) := by omega
          have i1 : (0 : Int) < (y : Int) := by omega
          have i2 : y / 2 < y := by omega
          clear hm hb2
          generalize y / 2 = y2 at *
          go_wp2
          go_round
          case rel => exact ⟨m + 1, y2, by go_num, rfl, HM.out, by omega⟩
          case measure => simp [intOf]; omega

end Go.Proofs.YtppkhhbhnhijpaaGreatDoor

/- The reference's numbers: Cmp, Add, Sub. -/
namespace Go.Proofs.YtppkhhbhnhijpaaGreatDoor
open Go.RowKit
open Lm
attribute [local go_sem ↓] Go.wp_at_zero Go.wp_at_succ

set_option maxHeartbeats 1000000 in
theorem rcmp_any (v1 v2 : Value) (x y : Nat) (w : World) (h1 : Num w v1 x) (h2 : Num w v2 y) :
    Calls Tryz.prog 97 #[v1, v2] w fun e w' => e = .returned (.int .i64 (cmpN x y)) ∧ Same w w' := by
  obtain ⟨Z, hA1, hZ, hZt, rfl, hZl⟩ := h1
  obtain ⟨Y, hA2, hY, hYt, rfl, hYl⟩ := h2
  obtain ⟨a1, c1, rfl, hc1, hm1, L1⟩ := hA1.form
  obtain ⟨a2, c2, rfl, hc2, hm2, L2⟩ := hA2.form
  clear hA1 hA2
  by_cases hl : Z.length = Y.length
  · have HL := hide hl.symm
    rw [← hl] at hc2 hYl ⊢
    clear hl
    have hne : ((Z.length : Int) != (Z.length : Int)) = false := by simp
    go_enter Tryz.func97, Tryz.ntmps97
    go_wp2
    go_loopw [5] (fun i wr => ∃ k : Nat, k ≤ Z.length ∧ i = .int .i64 ((k : Int) - 1) ∧ Same w wr ∧ cmpN (vb 4294967296 (Z.take k)) (vb 4294967296 (Y.take k)) = cmpN (vb 4294967296 Z) (vb 4294967296 Y)) (fun i _ => (intOf i + 1).toNat)
    case atStart => exact ⟨Z.length, Nat.le_refl _, by go_num, Same.refl _, by rw [List.take_length, ← HL.out, List.take_length]⟩
    case round =>
      obtain ⟨k, hk, rfl, hs, hv⟩ := hrel
      have HV := hide hv
      have HS := hide hs
      clear hv
      by_cases hk0 : k = 0
      · subst hk0
        have HN : Hid (cmpN (vb 4294967296 Z) (vb 4294967296 Y) = 0) := hide (by rw [← HV.out]; rfl)
        clear HV L1 L2 hs
        go_wp2
        go_ret
        rw [HN.out]
        exact ⟨rfl, HS.out⟩
      · obtain ⟨j, rfl⟩ : ∃ j, k = j + 1 := ⟨k - 1, by omega⟩
        rcases L1.below (hs.below _) with h0 | ⟨b, off, rfl, hcell⟩
        · simp [h0] at hk
        · rcases L2.below (hs.below _) with h0 | ⟨b', off', rfl, hcell'⟩
          · have := HL.out; simp [h0] at this; omega
          · have hck := hcell j (by omega)
            have hck' := hcell' j (by have := HL.out; omega)
            have ej : ((j + 1 : Nat) : Int) - 1 = (j : Int) := by omega
            have ej2 : (j : Int) + 1 - 1 = (j : Int) := by omega
            rw [ej]
            have hi1 : (0 : Int) ≤ (j : Int) := by omega
            have hi2 : (j : Int) < (Z.length : Int) := by omega
            rcases Nat.lt_trichotomy (Z.getD j 0) (Y.getD j 0) with hxy | hxy | hxy
            · have HN : Hid (cmpN (vb 4294967296 Z) (vb 4294967296 Y) = -1) := hide (by rw [← HV.out, vcmp_top hZ hY _ (by omega), cmpN_lt hxy])
              generalize Z.getD j 0 = a at *
              generalize Y.getD j 0 = c at *
              have i1 : (a : Int) < (c : Int) := by omega
              clear hcell hcell' HV L1 L2 hs
              go_wp2
              go_quiet (fail)
              go_wp2
              go_ret
              rw [HN.out]
              exact ⟨rfl, HS.out.drewN _⟩
            · have HN : Hid (cmpN (vb 4294967296 (Z.take j)) (vb 4294967296 (Y.take j)) = cmpN (vb 4294967296 Z) (vb 4294967296 Y)) := hide (by rw [← HV.out, vcmp_same _ hxy])
              rw [hxy] at hck
              generalize Y.getD j 0 = c at *
              have hd1 : decide ((c : Int) < (c : Int)) = false := decide_eq_false (by omega)
              clear hcell hcell' HV L1 L2 hs hxy
              go_wp2
              go_quiet (fail)
              go_wp2
              go_quiet (fail)
              go_wp2
              go_roundw
              case rel => exact ⟨j, by omega, by go_num, by first | exact (HS.out.drewN _).drewN _ | exact HS.out.drewN _, HN.out⟩
              case measure => simp [intOf]
            · have HN : Hid (cmpN (vb 4294967296 Z) (vb 4294967296 Y) = 1) := hide (by rw [← HV.out, vcmp_top hZ hY _ (by omega), cmpN_gt hxy])
              generalize Z.getD j 0 = a at *
              generalize Y.getD j 0 = c at *
              have i1 : (c : Int) < (a : Int) := by omega
              have hd1 : decide ((a : Int) < (c : Int)) = false := decide_eq_false (by omega)
              clear hcell hcell' HV L1 L2 hs
              go_wp2
              go_quiet (fail)
              go_wp2
              go_quiet (fail)
              go_wp2
              go_ret
              rw [HN.out]
              exact ⟨rfl, by first | exact (HS.out.drewN _).drewN _ | exact HS.out.drewN _⟩
  · have hne : ((Z.length : Int) != (Y.length : Int)) = true := by rw [bne_iff_ne]; omega
    rcases Nat.lt_or_gt_of_ne hl with hlt | hlt
    · rw [cmpN_lt (vb_shorter hZ hYt hlt)]
      have i1 : (Z.length : Int) < (Y.length : Int) := by omega
      clear L1 L2
      go_enter Tryz.func97, Tryz.ntmps97
      go_wp2
      go_ret
      exact ⟨rfl, Same.refl _⟩
    · rw [cmpN_gt (vb_shorter hY hZt hlt)]
      have hd1 : decide ((Z.length : Int) < (Y.length : Int)) = false := decide_eq_false (by omega)
      have i1 : (Y.length : Int) < (Z.length : Int) := by omega
      clear L1 L2
      go_enter Tryz.func97, Tryz.ntmps97
      go_wp2
      go_ret
      exact ⟨rfl, Same.refl _⟩

end Go.Proofs.YtppkhhbhnhijpaaGreatDoor

/- The reference's numbers: Add, Sub; the law's own 'same'. -/
namespace Go.Proofs.YtppkhhbhnhijpaaGreatDoor
open Go.RowKit
open Lm
attribute [local go_sem ↓] Go.wp_at_zero Go.wp_at_succ

theorem num_len {ds : List Nat} (hd : Digs 4294967296 ds) (ht : tr ds = ds) (L : Nat) (hb : blen (vb 4294967296 ds) ≤ 32 * L) : ds.length ≤ L := by
  refine Nat.le_of_not_lt fun hlt => ?_
  obtain ⟨n, hn⟩ : ∃ n, ds.length = n + 1 := ⟨ds.length - 1, by omega⟩
  have h1 := blen_vb hd ht n hn
  have h2 := blen_half _ (tr_last' ds n ht hn)
  omega

theorem vb_full {ds : List Nat} (n : Nat) (h : ds.length ≤ n) : vb 4294967296 (ds.take n) = vb 4294967296 ds := by rw [List.take_of_length_le h]

theorem radd_end {X Y out : List Nat} (hX : Digs 4294967296 X) (hY : Digs 4294967296 Y) (n cy : Nat) (h1 : X.length ≤ n) (h2 : Y.length ≤ n) (ho : out.length = n + 1)
    (h : vb 4294967296 (out.take (n + 1)) + cy * 4294967296 ^ (n + 1) = vb 4294967296 (X.take (n + 1)) + vb 4294967296 (Y.take (n + 1))) : vb 4294967296 out = vb 4294967296 X + vb 4294967296 Y := by
  rw [vb_full _ (by omega), vb_full _ (by omega), vb_full _ (by omega)] at h
  have a := vb_take_lt hX n
  have b := vb_take_lt hY n
  rw [vb_full _ h1] at a
  rw [vb_full _ h2] at b
  rcases Nat.eq_zero_or_pos cy with h0 | h0
  · subst h0; omega
  · exfalso
    have := Nat.mul_le_mul_right (4294967296 ^ (n + 1)) h0
    rw [Nat.pow_succ, B_pow] at this h
    omega

set_option maxHeartbeats 1000000 in
theorem radd_new (v1 v2 : Value) (x y : Nat) (w : World) (h1 : Num w v1 x) (h2 : Num w v2 y) (f1 : blen x ≤ 1125899906840000) (f2 : blen y ≤ 1125899906840000) :
    Calls Tryz.prog 125 #[v1, v2] w fun e w' => (∃ v', e = .returned v' ∧ Num w' v' (x + y) ∧ New w.heap.size v') ∧ Below w.heap.size w w' := by
  obtain ⟨X, A1, hX, hXt, rfl, _⟩ := h1
  obtain ⟨Y, A2, hY, hYt, rfl, _⟩ := h2
  have lX := num_len hX hXt 35184372088750 (by omega)
  have lY := num_len hY hYt 35184372088750 (by omega)
  obtain ⟨a1, c1, rfl, hc1, hm1, _⟩ := A1.form
  obtain ⟨a2, c2, rfl, hc2, hm2, _⟩ := A2.form
  obtain ⟨i0, hi, hz0, hz1, hz2⟩ := info_parts Tryz.infoU
  clear f1 f2 hXt hYt
  by_cases hl : X.length < Y.length
  · have i1 : (X.length : Int) < (Y.length : Int) := by omega
    go_enter Tryz.func125, Tryz.ntmps125
    go_wp2_with (at_make; refine wpList_make_full _ rfl _ _ 41 rfl w.heap.size 108 i0 (.int .u64 0) 1 Tryz.underlying41 hi hz0 hz1 .i64 .i64 _ _ (Y.length + 1) rfl rfl (by omega) (by omega) (by rw [hz2]; omega) (by unfold maxLen; omega) (Nat.le_refl _) ?_; intro w1 hown hgrow)
    have hb1 := Blk.made hown
    have hbel : Below w.heap.size w w1 := (Below.refl _ _).grown hgrow (Nat.le_refl _) (fun k hk => by cases hk)
    clear hown hgrow hi hz0 hz1 hz2
    go_loopw [7, 8] (fun c i wr => ∃ (k cy : Nat) (out : List Nat), k ≤ Y.length + 1 ∧ i = .int .i64 k ∧ c = .int .u64 cy ∧ cy ≤ 1 ∧ out.length = Y.length + 1 ∧ Digs 4294967296 out ∧ Blk wr w.heap.size out ∧ Below w.heap.size w wr ∧
        vb 4294967296 (out.take k) + cy * 4294967296 ^ k = vb 4294967296 (X.take k) + vb 4294967296 (Y.take k)) (fun _ i _ => Y.length + 1 - (intOf i).toNat)
    case atStart => exact ⟨0, 0, _, Nat.zero_le _, rfl, rfl, by omega, by simp, digs_replicate (by omega) _, hb1, hbel, by simp [vb]⟩
    case round =>
      obtain ⟨k, cy, out, hk, rfl, rfl, hcy, hlen, hdo, hblk, hbl, hval⟩ := hrel
      clear hb1 hbel
      have HB := hide hblk
      have HL := hide hbl
      by_cases hkl : k ≤ Y.length
      · have H1 := at_any _ X k wr (A1.below hbl)
        have H2 := at_any _ Y k wr (A2.below hbl)
        have hfr := hblk.free k
        have hco := hblk.cell k (by omega)
        generalize out.getD k 0 = o at *
        have z1 := dig_lt (by omega) hX k
        have z2 := dig_lt (by omega) hY k
        have HV := hide (vb_add_step X Y out k cy (by omega) hval)
        generalize X.getD k 0 = x at *
        generalize Y.getD k 0 = y at *
        have e0 : (x : Int) + (y : Int) + (cy : Int) = ((x + y + cy : Nat) : Int) := by omega
        have b0 : x + y + cy < 18446744073709551616 := by omega
        have e1 : ((x + y + cy : Nat) : Int) % 4294967296 = (((x + y + cy) % 4294967296 : Nat) : Int) := by omega
        have e2 : ((x + y + cy : Nat) : Int) / 4294967296 = (((x + y + cy) / 4294967296 : Nat) : Int) := by omega
        have b1 : (x + y + cy) % 4294967296 < 4294967296 := by omega
        have b2 : (x + y + cy) / 4294967296 ≤ 1 := by omega
        generalize (x + y + cy) % 4294967296 = m at *
        generalize (x + y + cy) / 4294967296 = d at *
        generalize x + y + cy = s at *
        clear hval hblk hbl A1 A2 hX hY
        go_wp2_with fail
        refine H1.mono ?_
        rintro e w2 ⟨rfl, rfl⟩
        go_wp2_with fail
        refine H2.mono ?_
        rintro e w2 ⟨rfl, rfl⟩
        clear H1 H2
        go_wp2
        go_roundw
        case rel => exact ⟨k + 1, d, out.set k m, by omega, by go_num, rfl, b2, by simp; omega, digs_set hdo _ _ b1, HB.out.set k m, HL.out.setCell (Nat.le_refl _) _, HV.out⟩
        case measure => simp [intOf]; omega
      · have ek : k = Y.length + 1 := by omega
        subst ek
        have hve := radd_end hX hY Y.length cy (by omega) (by omega) hlen hval
        have hA := Ans.of_blk (base := w.heap.size) (zs := out) (Nat.le_refl _) hblk List.take_length.symm (Nat.le_refl _) (by omega) (digs_limbs hdo)
        have H := norm_new w.heap.size _ _ _ (hA.arg (by omega)) hdo (by omega) (New.at _ _ _ _ _ (Nat.le_refl _))
        rw [hlen, hve] at H
        clear hval hblk hbl A1 A2 hX hY hA hve HB
        have hd1 : decide ((Y.length : Int) + 1 ≤ (Y.length : Int)) = false := decide_eq_false (by omega)
        go_wp2_with fail
        refine H.mono ?_
        rintro e w2 ⟨⟨v', rfl, hnum, hnw⟩, rfl⟩
        have HN := hide (And.intro hnum hnw)
        clear hnum hnw H
        go_wp2
        go_ret
        exact ⟨⟨v', rfl, HN.out.1, HN.out.2⟩, HL.out⟩
  · have hd0 : decide ((X.length : Int) < (Y.length : Int)) = false := decide_eq_false (by omega)
    go_enter Tryz.func125, Tryz.ntmps125
    go_wp2_with (at_make; refine wpList_make_full _ rfl _ _ 41 rfl w.heap.size 108 i0 (.int .u64 0) 1 Tryz.underlying41 hi hz0 hz1 .i64 .i64 _ _ (X.length + 1) rfl rfl (by omega) (by omega) (by rw [hz2]; omega) (by unfold maxLen; omega) (Nat.le_refl _) ?_; intro w1 hown hgrow)
    have hb1 := Blk.made hown
    have hbel : Below w.heap.size w w1 := (Below.refl _ _).grown hgrow (Nat.le_refl _) (fun k hk => by cases hk)
    clear hown hgrow hi hz0 hz1 hz2
    go_loopw [7, 8] (fun c i wr => ∃ (k cy : Nat) (out : List Nat), k ≤ X.length + 1 ∧ i = .int .i64 k ∧ c = .int .u64 cy ∧ cy ≤ 1 ∧ out.length = X.length + 1 ∧ Digs 4294967296 out ∧ Blk wr w.heap.size out ∧ Below w.heap.size w wr ∧
        vb 4294967296 (out.take k) + cy * 4294967296 ^ k = vb 4294967296 (X.take k) + vb 4294967296 (Y.take k)) (fun _ i _ => X.length + 1 - (intOf i).toNat)
    case atStart => exact ⟨0, 0, _, Nat.zero_le _, rfl, rfl, by omega, by simp, digs_replicate (by omega) _, hb1, hbel, by simp [vb]⟩
    case round =>
      obtain ⟨k, cy, out, hk, rfl, rfl, hcy, hlen, hdo, hblk, hbl, hval⟩ := hrel
      clear hb1 hbel
      have HB := hide hblk
      have HL := hide hbl
      by_cases hkl : k ≤ X.length
      · have H1 := at_any _ X k wr (A1.below hbl)
        have H2 := at_any _ Y k wr (A2.below hbl)
        have hfr := hblk.free k
        have hco := hblk.cell k (by omega)
        generalize out.getD k 0 = o at *
        have z1 := dig_lt (by omega) hX k
        have z2 := dig_lt (by omega) hY k
        have HV := hide (vb_add_step X Y out k cy (by omega) hval)
        generalize X.getD k 0 = x at *
        generalize Y.getD k 0 = y at *
        have e0 : (x : Int) + (y : Int) + (cy : Int) = ((x + y + cy : Nat) : Int) := by omega
        have b0 : x + y + cy < 18446744073709551616 := by omega
        have e1 : ((x + y + cy : Nat) : Int) % 4294967296 = (((x + y + cy) % 4294967296 : Nat) : Int) := by omega
        have e2 : ((x + y + cy : Nat) : Int) / 4294967296 = (((x + y + cy) / 4294967296 : Nat) : Int) := by omega
        have b1 : (x + y + cy) % 4294967296 < 4294967296 := by omega
        have b2 : (x + y + cy) / 4294967296 ≤ 1 := by omega
        generalize (x + y + cy) % 4294967296 = m at *
        generalize (x + y + cy) / 4294967296 = d at *
        generalize x + y + cy = s at *
        clear hval hblk hbl A1 A2 hX hY
        go_wp2_with fail
        refine H1.mono ?_
        rintro e w2 ⟨rfl, rfl⟩
        go_wp2_with fail
        refine H2.mono ?_
        rintro e w2 ⟨rfl, rfl⟩
        clear H1 H2
        go_wp2
        go_roundw
        case rel => exact ⟨k + 1, d, out.set k m, by omega, by go_num, rfl, b2, by simp; omega, digs_set hdo _ _ b1, HB.out.set k m, HL.out.setCell (Nat.le_refl _) _, HV.out⟩
        case measure => simp [intOf]; omega
      · have ek : k = X.length + 1 := by omega
        subst ek
        have hve := radd_end hX hY X.length cy (by omega) (by omega) hlen hval
        have hA := Ans.of_blk (base := w.heap.size) (zs := out) (Nat.le_refl _) hblk List.take_length.symm (Nat.le_refl _) (by omega) (digs_limbs hdo)
        have H := norm_new w.heap.size _ _ _ (hA.arg (by omega)) hdo (by omega) (New.at _ _ _ _ _ (Nat.le_refl _))
        rw [hlen, hve] at H
        clear hval hblk hbl A1 A2 hX hY hA hve HB
        have hd1 : decide ((X.length : Int) + 1 ≤ (X.length : Int)) = false := decide_eq_false (by omega)
        go_wp2_with fail
        refine H.mono ?_
        rintro e w2 ⟨⟨v', rfl, hnum, hnw⟩, rfl⟩
        have HN := hide (And.intro hnum hnw)
        clear hnum hnw H
        go_wp2
        go_ret
        exact ⟨⟨v', rfl, HN.out.1, HN.out.2⟩, HL.out⟩

theorem radd_any (v1 v2 : Value) (x y : Nat) (w : World) (h1 : Num w v1 x) (h2 : Num w v2 y) (f1 : blen x ≤ 1125899906840000) (f2 : blen y ≤ 1125899906840000) :
    Calls Tryz.prog 125 #[v1, v2] w fun e w' => (∃ v', e = .returned v' ∧ Num w' v' (x + y)) ∧ Below w.heap.size w w' :=
  (radd_new v1 v2 x y w h1 h2 f1 f2).mono fun _ _ ⟨⟨v', h1, h2, _⟩, h3⟩ => ⟨⟨v', h1, h2⟩, h3⟩

end Go.Proofs.YtppkhhbhnhijpaaGreatDoor

/- The reference's numbers: Sub; the law's own 'same'. -/
namespace Go.Proofs.YtppkhhbhnhijpaaGreatDoor
open Go.RowKit
open Lm
attribute [local go_sem ↓] Go.wp_at_zero Go.wp_at_succ

theorem rsub_end {X Y out : List Nat} (ho : Digs 4294967296 out) (hl : out.length = X.length) (hyl : Y.length ≤ X.length) (hle : vb 4294967296 Y ≤ vb 4294967296 X) (bw : Nat)
    (h : vb 4294967296 (out.take X.length) + vb 4294967296 (Y.take X.length) = vb 4294967296 (X.take X.length) + bw * 4294967296 ^ X.length) : vb 4294967296 out = vb 4294967296 X - vb 4294967296 Y := by
  rw [vb_full _ (by omega), vb_full _ hyl, List.take_length] at h
  have h1 := vb_take_lt ho X.length
  rw [vb_full _ (by omega)] at h1
  rcases Nat.eq_zero_or_pos bw with h0 | h0
  · subst h0; omega
  · exfalso
    have := Nat.mul_le_mul_right (4294967296 ^ X.length) h0
    rw [B_pow] at this h
    omega

set_option maxHeartbeats 1000000 in
theorem rsub_new (v1 v2 : Value) (x y : Nat) (w : World) (h1 : Num w v1 x) (h2 : Num w v2 y) (hle : y ≤ x) (f1 : blen x ≤ 1125899906840000) :
    Calls Tryz.prog 126 #[v1, v2] w fun e w' => (∃ v', e = .returned v' ∧ Num w' v' (x - y) ∧ New w.heap.size v') ∧ Below w.heap.size w w' := by
  obtain ⟨X, A1, hX, hXt, rfl, _⟩ := h1
  obtain ⟨Y, A2, hY, hYt, rfl, _⟩ := h2
  have lX := num_len hX hXt 35184372088750 (by omega)
  have hyl : Y.length ≤ X.length := by
    refine Nat.le_of_not_lt fun h => ?_
    have := vb_shorter hX hYt h
    omega
  obtain ⟨a1, c1, rfl, hc1, hm1, L1⟩ := A1.form
  obtain ⟨i0, hi, hz0, hz1, hz2⟩ := info_parts Tryz.infoU
  have HLE := hide hle
  clear f1 hXt hYt hle
  go_enter Tryz.func126, Tryz.ntmps126
  go_wp2_with (at_make; refine wpList_make_full _ rfl _ _ 41 rfl w.heap.size 108 i0 (.int .u64 0) 1 Tryz.underlying41 hi hz0 hz1 .i64 .i64 _ _ X.length rfl rfl (by omega) (by omega) (by rw [hz2]; omega) (by unfold maxLen; omega) (Nat.le_refl _) ?_; intro w1 hown hgrow)
  have hb1 := Blk.made hown
  have hbel : Below w.heap.size w w1 := (Below.refl _ _).grown hgrow (Nat.le_refl _) (fun k hk => by cases hk)
  clear hown hgrow hi hz0 hz1 hz2
  go_loopw [6, 14] (fun c i wr => ∃ (k cy : Nat) (out : List Nat), k ≤ X.length ∧ i = .int .i64 k ∧ c = .int .u64 cy ∧ cy ≤ 1 ∧ out.length = X.length ∧ Digs 4294967296 out ∧ Blk wr w.heap.size out ∧ Below w.heap.size w wr ∧
      vb 4294967296 (out.take k) + vb 4294967296 (Y.take k) = vb 4294967296 (X.take k) + cy * 4294967296 ^ k) (fun _ i _ => X.length - (intOf i).toNat)
  case atStart => exact ⟨0, 0, _, Nat.zero_le _, rfl, rfl, by omega, by simp, digs_replicate (by omega) _, hb1, hbel, by simp [vb]⟩
  case round =>
    obtain ⟨k, cy, out, hk, rfl, rfl, hcy, hlen, hdo, hblk, hbl, hval⟩ := hrel
    clear hb1 hbel
    have HB := hide hblk
    have HL := hide hbl
    by_cases hkl : k < X.length
    · rcases L1.below hbl with h0 | ⟨b, off, rfl, hcell⟩
      · simp [h0] at hkl
      · have H2 := at_any _ Y k wr.drew (A2.below hbl.drew)
        have hck := hcell k hkl
        have hbw := Lies.block (L1 : Lies w (some ⟨b, off, none⟩) X) (by omega)
        have hne1 : ¬ b = w.heap.size := by omega
        have hne2 : ¬ w.heap.size = b := by omega
        have hfr := hblk.free k
        have hco := hblk.cell k (by omega)
        generalize out.getD k 0 = o at *
        have z1 := dig_lt (by omega) hX k
        have z2 := dig_lt (by omega) hY k
        have HV := hide (vb_sub_step X Y out k cy (by omega) z1 z2 hcy hval)
        generalize X.getD k 0 = x at *
        generalize Y.getD k 0 = y at *
        have w1 : IntKind.u64.wrap ((x : Int) + 4294967296) = ((x + 4294967296 : Nat) : Int) := by rw [IntKind.wrap_u64]; omega
        have w2 : IntKind.u64.wrap (((x + 4294967296 : Nat) : Int) - (y : Int)) = ((x + 4294967296 - y : Nat) : Int) := by rw [IntKind.wrap_u64]; omega
        have w3 : IntKind.u64.wrap (((x + 4294967296 - y : Nat) : Int) - (cy : Int)) = ((x + 4294967296 - y - cy : Nat) : Int) := by rw [IntKind.wrap_u64]; omega
        have e0 : (x : Int) + 4294967296 = ((x + 4294967296 : Nat) : Int) := by omega
        have e1 : ((x + 4294967296 : Nat) : Int) - (y : Int) = ((x + 4294967296 - y : Nat) : Int) := by omega
        have e2 : ((x + 4294967296 - y : Nat) : Int) - (cy : Int) = ((x + 4294967296 - y - cy : Nat) : Int) := by omega
        have b0 : x + 4294967296 < 18446744073709551616 := by omega
        have b1 : x + 4294967296 - y < 18446744073709551616 := by omega
        have b2 : x + 4294967296 - y - cy < 18446744073709551616 := by omega
        have e3 : ((x + 4294967296 - y - cy : Nat) : Int) % 4294967296 = (((x + 4294967296 - y - cy) % 4294967296 : Nat) : Int) := by omega
        have e4 : ((x + 4294967296 - y - cy : Nat) : Int) / 4294967296 = (((x + 4294967296 - y - cy) / 4294967296 : Nat) : Int) := by omega
        have b3 : (x + 4294967296 - y - cy) % 4294967296 < 4294967296 := by omega
        have b4 : (x + 4294967296 - y - cy) / 4294967296 ≤ 1 := by omega
        generalize (x + 4294967296 - y - cy) % 4294967296 = m at *
        generalize (x + 4294967296 - y - cy) / 4294967296 = d at *
        generalize x + 4294967296 - y - cy = t3 at *
        generalize x + 4294967296 - y = t2 at *
        generalize x + 4294967296 = t1 at *
        have e5 : (1 : Int) - (d : Int) = ((1 - d : Nat) : Int) := by omega
        have w4 : IntKind.u64.wrap (t1 : Int) = (t1 : Int) := by rw [IntKind.wrap_u64]; omega
        have w5 : IntKind.u64.wrap (t2 : Int) = (t2 : Int) := by rw [IntKind.wrap_u64]; omega
        have w6 : IntKind.u64.wrap (t3 : Int) = (t3 : Int) := by rw [IntKind.wrap_u64]; omega
        have hi1 : (0 : Int) ≤ (k : Int) := by omega
        have hi2 : (k : Int) < (X.length : Int) := by omega
        clear hval hblk hbl A1 A2 hX hY hcell L1
        go_wp2
        go_region_held3 (fun w' => w'.cell? ⟨b, off + k, none⟩ = some (.int .u64 x)) (go_keep) (first | (go_at_call 111; refine H2.mono ?_; rintro e w2 ⟨rfl, rfl⟩))
        go_wp2
        go_roundw
        case rel => exact ⟨k + 1, 1 - d, out.set k m, by omega, by go_num, by go_num, by omega, by simp; omega, digs_set hdo _ _ b3, HB.out.set k m, (HL.out.setCell (Nat.le_refl _) _).drew, HV.out⟩
        case measure => simp [intOf]; omega
    · have ek : k = X.length := by omega
      subst ek
      have hve := rsub_end hdo hlen hyl HLE.out cy hval
      have hA := Ans.of_blk (base := w.heap.size) (zs := out) (Nat.le_refl _) hblk List.take_length.symm (Nat.le_refl _) (by omega) (digs_limbs hdo)
      have H := norm_new w.heap.size _ _ _ (hA.arg (by omega)) hdo (by omega) (New.at _ _ _ _ _ (Nat.le_refl _))
      rw [hlen, hve] at H
      clear hval hblk hbl A1 A2 hX hY hA hve HB L1
      go_wp2_with fail
      refine H.mono ?_
      rintro e w2 ⟨⟨v', rfl, hnum, hnw⟩, rfl⟩
      have HN := hide (And.intro hnum hnw)
      clear hnum hnw H
      go_wp2
      go_ret
      exact ⟨⟨v', rfl, HN.out.1, HN.out.2⟩, HL.out⟩

theorem rsub_any (v1 v2 : Value) (x y : Nat) (w : World) (h1 : Num w v1 x) (h2 : Num w v2 y) (hle : y ≤ x) (f1 : blen x ≤ 1125899906840000) :
    Calls Tryz.prog 126 #[v1, v2] w fun e w' => (∃ v', e = .returned v' ∧ Num w' v' (x - y)) ∧ Below w.heap.size w w' :=
  (rsub_new v1 v2 x y w h1 h2 hle f1).mono fun _ _ ⟨⟨v', h1, h2, _⟩, h3⟩ => ⟨⟨v', h1, h2⟩, h3⟩

end Go.Proofs.YtppkhhbhnhijpaaGreatDoor

/- The reference's numbers: Zero, Shl. -/
namespace Go.Proofs.YtppkhhbhnhijpaaGreatDoor
open Go.RowKit
open Lm
attribute [local go_sem ↓] Go.wp_at_zero Go.wp_at_succ

theorem Num.zero_iff {w : World} {v : Value} {x : Nat} (h : Num w v x) : ∃ ao n cap, v = .slice ao n cap ∧ ((n : Int) == 0) = (x == 0) := by
  obtain ⟨ds, A, hd, ht, rfl, _⟩ := h
  obtain ⟨ao, cap, hv, _⟩ := A.form
  refine ⟨ao, ds.length, cap, hv, ?_⟩
  by_cases h0 : ds = []
  · subst h0; rfl
  · have h1 : 0 < ds.length := List.length_pos_iff.2 h0
    have h2 : vb 4294967296 ds ≠ 0 := fun e => h0 (vb_tail_zero (by omega) ht e)
    have e1 : ((ds.length : Int) == 0) = false := by rw [beq_eq_false_iff_ne]; omega
    have e2 : (vb 4294967296 ds == 0) = false := by rw [beq_eq_false_iff_ne]; exact h2
    rw [e1, e2]

theorem zero_any (v : Value) (x : Nat) (w : World) (h : Num w v x) : Calls Tryz.prog 96 #[v] w fun e w' => e = .returned (.bool (x == 0)) ∧ w' = w := by
  obtain ⟨ao, n, cap, rfl, he⟩ := h.zero_iff
  clear h
  go_enter Tryz.func96, Tryz.ntmps96
  go_wp2
  go_ret
  exact ⟨rfl, rfl⟩

theorem getD_zeros (n k : Nat) : (List.replicate n 0).getD k 0 = 0 := by
  by_cases h : k < n
  · simp [List.getD, h]
  · simp [List.getD, h]

theorem vb_zeros (B n : Nat) : vb B (List.replicate n 0) = 0 := by
  induction n with
  | zero => rfl
  | succ n ih => rw [List.replicate_succ, vb, ih]; simp

theorem set2_getD (out : List Nat) (k d t : Nat) (h : k + 1 < out.length) : ((out.set k t).set (k + 1) d).getD (k + 1) 0 = d := by
  simp [List.getD, h]

theorem wrap_shl32 (x s : Nat) (h : x * 2 ^ s < 18446744073709551616) : IntKind.u64.wrap ((x : Int) * 2 ^ s) = ((x * 2 ^ s : Nat) : Int) := by
  rw [IntKind.wrap_u64]
  have e : (x : Int) * 2 ^ s = ((x * 2 ^ s : Nat) : Int) := by push_cast; rfl
  rw [e]; omega

theorem wrap64_id (n : Int) (h1 : -9223372036854775808 ≤ n) (h2 : n ≤ 9223372036854775807) : wrap64 n = n := by unfold wrap64; omega

theorem set2_length (out : List Nat) (i j a b : Nat) : ((out.set i a).set j b).length = out.length := by simp

set_option maxRecDepth 20000 in
set_option maxHeartbeats 1000000 in
theorem rshl_any (v : Value) (x n : Nat) (w : World) (h : Num w v x) (hf : blen x + n ≤ 1125899906840000) :
    Calls Tryz.prog 77 #[v, .int .i64 n] w fun e w' => (∃ v', e = .returned v' ∧ Num w' v' (x * 2 ^ n)) ∧ Below w.heap.size w w' := by
  obtain ⟨X, A, hX, hXt, rfl, _⟩ := h
  obtain ⟨a1, c1, rfl, hc1, hm1, L1⟩ := A.form
  by_cases h0 : X.length = 0
  · have hx : X = [] := List.length_eq_zero_iff.1 h0
    subst hx
    clear A L1 hX hXt hf
    go_enter Tryz.func77, Tryz.ntmps77
    go_wp2
    go_ret
    refine ⟨⟨_, rfl, ?_⟩, Below.refl _ _⟩
    rw [vb, Nat.zero_mul]
    exact Num.nil w
  · obtain ⟨i0, hi, hz0, hz1, hz2⟩ := info_parts Tryz.infoU
    obtain ⟨q, s, hs, hnq⟩ : ∃ q s, s < 32 ∧ n = q * 32 + s := ⟨n / 32, n % 32, by omega, by omega⟩
    have lX : X.length + q ≤ 35184372088752 := by
      obtain ⟨m, hm⟩ : ∃ m, X.length = m + 1 := ⟨X.length - 1, by omega⟩
      have h1 := blen_vb hX hXt m hm
      omega
    have eq1 : (n : Int) / 32 = (q : Int) := by omega
    have eq2 : (n : Int) % 32 = (s : Int) := by omega
    have HN : Hid (n = q * 32 + s) := hnq
    rcases L1 with h' | ⟨b, off, rfl, hcell⟩
    · exact absurd (by rw [h']; rfl) h0
    · have hbw : b < w.heap.size := Lies.block (zs := X) (.inr ⟨b, off, rfl, hcell⟩) (by omega)
      have hln : ((X.length : Int) == 0) = false := by rw [beq_eq_false_iff_ne]; omega
      clear hnq hf A
      go_enter Tryz.func77, Tryz.ntmps77
      go_wp2_with (at_make; refine wpList_make_full _ rfl _ _ 41 rfl w.heap.size 108 i0 (.int .u64 0) 1 Tryz.underlying41 hi hz0 hz1 .i64 .i64 _ _ (X.length + q + 1) rfl rfl (by omega) (by omega) (by rw [hz2]; omega) (by unfold maxLen; omega) (Nat.le_refl _) ?_; intro w1 hown hgrow)
      have hb1 := Blk.made hown
      have hbel : Below w.heap.size w w1 := (Below.refl _ _).grown hgrow (Nat.le_refl _) (fun k hk => by cases hk)
      clear hown hgrow hi hz0 hz1 hz2
      go_loopw [23] (fun i wr => ∃ (k : Nat) (out : List Nat), k ≤ X.length ∧ i = .int .i64 k ∧ out.length = X.length + q + 1 ∧ Digs 4294967296 out ∧ out.getD (q + k) 0 < 2 ^ s ∧ Blk wr w.heap.size out ∧ Below w.heap.size w wr ∧
          vb 4294967296 (out.take (q + k + 1)) = vb 4294967296 (X.take k) * 2 ^ n) (fun i _ => X.length - (intOf i).toNat)
      case atStart => exact ⟨0, _, Nat.zero_le _, rfl, by simp, digs_replicate (by omega) _, by rw [getD_zeros]; exact Nat.two_pow_pos _, hb1, hbel, by rw [List.take_replicate, vb_zeros]; simp [vb]⟩
      case round =>
        obtain ⟨k, out, hk, rfl, hlen, hdo, hlow, hblk, hbl, hval⟩ := hrel
        clear hb1 hbel
        have HB := hide hblk
        have HL := hide hbl
        by_cases hkl : k < X.length
        · have hck : wr.cell? ⟨b, off + k, none⟩ = some (.int .u64 ((X.getD k 0 : Nat) : Int)) := by rw [hbl.cell (p := ⟨b, off + k, none⟩) hbw]; exact hcell k hkl
          have hne1 : ¬ b = w.heap.size := by omega
          have hne2 : ¬ w.heap.size = b := by omega
          have hfr := hblk.free (k + q)
          have hco := hblk.cell (k + q) (by omega)
          have hfr1 := hblk.free (k + q + 1)
          have hco1 := hblk.cell (k + q + 1) (by omega)
          have HV := hide (rshl_step X out q s k n HN.out (by omega) hval)
          have z1 := dig_lt (by omega) hX k
          have b1 := shl32_mod (X.getD k 0) s (out.getD (q + k) 0) (by omega) hlow
          have b2 := shl32_div (X.getD k 0) s z1
          have b3 := shl32_fit (X.getD k 0) s z1 hs
          have hdd := hide (digs_set (digs_set hdo (q + k) _ b1) (q + k + 1) (X.getD k 0 * 2 ^ s / 4294967296) (by omega))
          have hge := hide (show ((out.set (q + k) (out.getD (q + k) 0 + X.getD k 0 * 2 ^ s % 4294967296)).set (q + k + 1) (X.getD k 0 * 2 ^ s / 4294967296)).getD (q + (k + 1)) 0 < 2 ^ s by rw [show q + (k + 1) = q + k + 1 by omega, set2_getD _ _ _ _ (by omega)]; exact b2)
          generalize X.getD k 0 = x at *
          rw [Nat.add_comm q k] at *
          generalize out.getD (k + q) 0 = o at *
          generalize out.getD (k + q + 1) 0 = o1 at *
          have w0 : IntKind.u64.wrap ((x : Int) * 2 ^ s) = ((x * 2 ^ s : Nat) : Int) := wrap_shl32 x s b3
          generalize x * 2 ^ s = T at *
          have e1 : (T : Int) % 4294967296 = ((T % 4294967296 : Nat) : Int) := by omega
          have e2 : (T : Int) / 4294967296 = ((T / 4294967296 : Nat) : Int) := by omega
          have b4 : T / 4294967296 < 4294967296 := by omega
          generalize T % 4294967296 = m at *
          generalize T / 4294967296 = d at *
          have e3 : (o : Int) + (m : Int) = ((o + m : Nat) : Int) := by omega
          generalize o + m = t at *
          have e4 : IntKind.u64.wrap (t : Int) = (t : Int) := by rw [IntKind.wrap_u64]; omega
          clear hval hblk hbl hcell
          go_wp2
          go_region
          go_wp2
          go_roundw
          case rel => exact ⟨k + 1, (out.set (k + q) t).set (k + q + 1) d, by omega, by go_num, by rw [set2_length]; exact hlen, hdd.out, hge.out, (HB.out.set (k + q) t).set (k + q + 1) d, ((HL.out.setCell (Nat.le_refl _) _).setCell (Nat.le_refl _) _).drew, by rw [show q + (k + 1) + 1 = k + q + 1 + 1 by omega]; exact HV.out⟩
          case measure => simp [intOf]; omega
        · have ek : k = X.length := by omega
          subst ek
          have hve : vb 4294967296 out = vb 4294967296 X * 2 ^ n := by
            rw [List.take_of_length_le (by omega), List.take_length] at hval; exact hval
          have hA := Ans.of_blk (base := w.heap.size) (zs := out) (Nat.le_refl _) hblk List.take_length.symm (Nat.le_refl _) (by omega) (digs_limbs hdo)
          have H := norm_any _ _ _ (hA.arg (by omega)) hdo (by omega)
          rw [hlen, hve] at H
          clear hval hblk hbl hX hA hve HB hcell
          go_wp2_with fail
          refine H.mono ?_
          rintro e w2 ⟨⟨v', rfl, hnum⟩, rfl⟩
          have HN := hide hnum
          clear hnum H
          go_wp2
          go_ret
          exact ⟨⟨v', rfl, HN.out⟩, HL.out⟩

set_option maxRecDepth 20000 in
set_option maxHeartbeats 1000000 in
theorem rshr_any (v : Value) (x n : Nat) (w : World) (h : Num w v x) (hf : blen x ≤ 1125899906840000) (hn : n ≤ 4611686018427387904) :
    Calls Tryz.prog 87 #[v, .int .i64 n] w fun e w' => (∃ v', e = .returned v' ∧ Num w' v' (x / 2 ^ n)) ∧ Below w.heap.size w w' := by
  obtain ⟨X, A, hX, hXt, rfl, _⟩ := h
  have lX := num_len hX hXt 35184372088750 (by omega)
  clear hf
  obtain ⟨a1, c1, rfl, hc1, hm1, L1⟩ := A.form
  by_cases h0 : X.length ≤ n / 32
  · have hx := hide (rshr_none X n hX h0)
    obtain ⟨q, hq⟩ : ∃ q, q = n / 32 := ⟨_, rfl⟩
    have eq1 : (n : Int) / 32 = (q : Int) := by omega
    have h1 : (X.length : Int) ≤ (q : Int) := by omega
    clear A L1 hX hXt hq h0
    go_enter Tryz.func87, Tryz.ntmps87
    go_wp2
    go_ret
    refine ⟨⟨_, rfl, ?_⟩, Below.refl _ _⟩
    rw [hx.out]
    exact Num.nil w
  · obtain ⟨i0, hi, hz0, hz1, hz2⟩ := info_parts Tryz.infoU
    obtain ⟨q, s, hs, hnq⟩ : ∃ q s, s < 32 ∧ n = q * 32 + s := ⟨n / 32, n % 32, by omega, by omega⟩
    have hq : q < X.length := by omega
    have eq1 : (n : Int) / 32 = (q : Int) := by omega
    have eq2 : (n : Int) % 32 = (s : Int) := by omega
    have HN : Hid (n = q * 32 + s) := hnq
    have hd0 : decide ((X.length : Int) ≤ (q : Int)) = false := decide_eq_false (by omega)
    rcases L1 with h' | ⟨b, off, rfl, hcell⟩
    · rw [h'] at hq; simp at hq
    · have hbw : b < w.heap.size := Lies.block (zs := X) (.inr ⟨b, off, rfl, hcell⟩) (by omega)
      clear hnq h0
      have hlL : (shrL s (X.drop q)).length = X.length - q := by rw [shrL_length, List.length_drop]
      have eL : (X.length : Int) - (q : Int) = ((X.length - q : Nat) : Int) := by omega
      obtain ⟨M, hM⟩ : ∃ M, M = X.length - q := ⟨_, rfl⟩
      rw [← hM] at hlL eL
      have hM1 : M + q ≤ X.length := by omega
      have hM2 : X.length ≤ M + q := by omega
      clear hM
      go_enter Tryz.func87, Tryz.ntmps87
      go_wp2_with (at_make; refine wpList_make_full _ rfl _ _ 41 rfl w.heap.size 108 i0 (.int .u64 0) 1 Tryz.underlying41 hi hz0 hz1 .i64 .i64 _ _ M rfl rfl (by omega) (by omega) (by rw [hz2]; omega) (by unfold maxLen; omega) (Nat.le_refl _) ?_; intro w1 hown hgrow)
      have hb1 := Blk.made hown
      have hbel : Below w.heap.size w w1 := (Below.refl _ _).grown hgrow (Nat.le_refl _) (fun k hk => by cases hk)
      clear hown hgrow hi hz0 hz1 hz2
      rw [eq2]
      go_loopw [24] (fun i wr => ∃ (k : Nat) (out : List Nat), k ≤ M ∧ i = .int .i64 k ∧ out.length = M ∧ Digs 4294967296 out ∧ Blk wr w.heap.size out ∧ Below w.heap.size w wr ∧
          out.take k = (shrL s (X.drop q)).take k) (fun i _ => M - (intOf i).toNat)
      case atStart => exact ⟨0, _, Nat.zero_le _, rfl, by simp, digs_replicate (by omega) _, hb1, hbel, rfl⟩
      case round =>
        obtain ⟨k, out, hk, rfl, hlen, hdo, hblk, hbl, hval⟩ := hrel
        clear hb1 hbel
        have HB := hide hblk
        have HL := hide hbl
        by_cases hkl : k < M
        · have hj : k + q < X.length := by omega
          have ej : (k : Int) + (q : Int) = ((k + q : Nat) : Int) := by omega
          have wj : IntKind.i64.wrap ((k + q : Nat) : Int) = ((k + q : Nat) : Int) := by rw [IntKind.wrap_i64]; omega
          have wq : IntKind.i64.wrap (q : Int) = (q : Int) := by rw [IntKind.wrap_i64]; omega
          have wj1 : IntKind.i64.wrap (((k + q : Nat) : Int) + 1) = ((k + q : Nat) : Int) + 1 := by rw [IntKind.wrap_i64]; omega
          have hi1 : (0 : Int) ≤ ((k + q : Nat) : Int) := by omega
          have hi2 : ((k + q : Nat) : Int) < (X.length : Int) := by omega
          have hck : wr.cell? ⟨b, off + (k + q), none⟩ = some (.int .u64 ((X.getD (k + q) 0 : Nat) : Int)) := by rw [hbl.cell (p := ⟨b, off + (k + q), none⟩) hbw]; exact hcell (k + q) (by omega)
          have ec : ((k + q + 1 : Nat) : Int) = ((k + q : Nat) : Int) + 1 := by omega
          have H2 := at_any _ X (k + q + 1) wr.drew (A.below hbl.drew)
          rw [ec] at H2
          clear ec
          have hne1 : ¬ b = w.heap.size := by omega
          have hne2 : ¬ w.heap.size = b := by omega
          have hfr := hblk.free k
          have hco := hblk.cell k (by omega)
          generalize out.getD k 0 = o at *
          have z1 := dig_lt (by omega) hX (k + q)
          have z2 := dig_lt (by omega) hX (k + q + 1)
          have hg := shrL_getD s (X.drop q) k (by rw [List.length_drop]; omega)
          have eg : ∀ j, (X.drop q).getD j 0 = X.getD (j + q) 0 := fun j => by simp [List.getD, Nat.add_comm]
          rw [eg, eg, show k + 1 + q = k + q + 1 by omega] at hg
          have HV := hide (take_set_list out (shrL s (X.drop q)) k (by omega) (by omega) hval)
          rw [hg] at HV
          clear hg eg
          generalize X.getD (k + q) 0 = x at *
          generalize X.getD (k + q + 1) 0 = y at *
          have bm : (x + y * 4294967296) / 2 ^ s % 4294967296 < 4294967296 := Nat.mod_lt _ (by omega)
          have e0 : (y : Int) * 4294967296 = ((y * 4294967296 : Nat) : Int) := by omega
          have by1 : y * 4294967296 ≤ 18446744069414584320 := by omega
          generalize y * 4294967296 = Y at *
          have e1 : (x : Int) + (Y : Int) = ((x + Y : Nat) : Int) := by omega
          have by2 : x + Y < 18446744073709551616 := by omega
          generalize x + Y = T at *
          have e2 : (T : Int) / 2 ^ s = ((T / 2 ^ s : Nat) : Int) := by push_cast; rfl
          generalize T / 2 ^ s = D at *
          have e3 : (D : Int) % 4294967296 = ((D % 4294967296 : Nat) : Int) := by omega
          generalize D % 4294967296 = m at *
          have wY : IntKind.u64.wrap (Y : Int) = (Y : Int) := by rw [IntKind.wrap_u64]; omega
          have wT : IntKind.u64.wrap (T : Int) = (T : Int) := by rw [IntKind.wrap_u64]; omega
          generalize k + q = j at *
          clear hval hblk hbl hcell A hX
          go_wp2
          go_region_held3 (fun w' => w'.cell? ⟨b, off + j, none⟩ = some (.int .u64 x)) (go_keep) (first | (go_at_call 111; refine H2.mono ?_; rintro e w2 ⟨rfl, rfl⟩))
          go_wp2
          go_roundw
          case rel => exact ⟨k + 1, out.set k m, by omega, by go_num, by simp; omega, digs_set hdo _ _ bm, HB.out.set k m, (HL.out.setCell (Nat.le_refl _) _).drew, HV.out⟩
          case measure => simp [intOf]; omega
        · have ek : k = M := by omega
          subst ek
          have hve : vb 4294967296 out = vb 4294967296 X / 2 ^ n := by
            rw [List.take_of_length_le (by omega), List.take_of_length_le (by omega)] at hval
            rw [hval, rshr_val X q s hX (by omega) hs, ← HN.out]
          have hA := Ans.of_blk (base := w.heap.size) (zs := out) (Nat.le_refl _) hblk List.take_length.symm (Nat.le_refl _) (by omega) (digs_limbs hdo)
          have H := norm_any _ _ _ (hA.arg (by omega)) hdo (by omega)
          rw [hlen, hve] at H
          clear hval hblk hbl hX hA hve HB hcell A
          go_wp2_with fail
          refine H.mono ?_
          rintro e w2 ⟨⟨v', rfl, hnum⟩, rfl⟩
          have HN := hide hnum
          clear hnum H
          go_wp2
          go_ret
          exact ⟨⟨v', rfl, HN.out⟩, HL.out⟩

end Go.Proofs.YtppkhhbhnhijpaaGreatDoor

/- The reference's numbers: Mul. -/
namespace Go.Proofs.YtppkhhbhnhijpaaGreatDoor
open Go.RowKit
open Lm
attribute [local go_sem ↓] Go.wp_at_zero Go.wp_at_succ

theorem getD_set_ne (out : List Nat) (j n z : Nat) (h : j ≠ n) : (out.set j z).getD n 0 = out.getD n 0 := by
  simp [List.getD, h]

theorem num_len32 {ds : List Nat} (hd : Digs 4294967296 ds) (ht : tr ds = ds) : ds.length * 32 ≤ blen (vb 4294967296 ds) + 31 := by
  rcases Nat.eq_zero_or_pos ds.length with h | h
  · omega
  · obtain ⟨m, hm⟩ : ∃ m, ds.length = m + 1 := ⟨ds.length - 1, by omega⟩
    have h1 := blen_vb hd ht m hm
    have h2 := blen_half _ (tr_last' ds m ht hm)
    omega

set_option maxRecDepth 20000 in
set_option maxHeartbeats 1000000 in
theorem rmul_any (v1 v2 : Value) (x y : Nat) (w : World) (h1 : Num w v1 x) (h2 : Num w v2 y) (hf : blen x + blen y ≤ 1125899906840000) :
    Calls Tryz.prog 127 #[v1, v2] w fun e w' => (∃ v', e = .returned v' ∧ Num w' v' (x * y)) ∧ Below w.heap.size w w' := by
  obtain ⟨X, A1, hX, hXt, rfl, _⟩ := h1
  obtain ⟨Y, A2, hY, hYt, rfl, _⟩ := h2
  have lX := num_len32 hX hXt
  have lY := num_len32 hY hYt
  have lXY : X.length + Y.length ≤ 35184372088752 := by omega
  obtain ⟨a1, c1, rfl, hc1, hm1, L1⟩ := A1.form
  obtain ⟨a2, c2, rfl, hc2, hm2, L2⟩ := A2.form
  obtain ⟨i0, hi, hz0, hz1, hz2⟩ := info_parts Tryz.infoU
  clear hf hXt hYt lX lY A1 A2
  obtain ⟨N, hN1, hN2, eN⟩ : ∃ N, N ≤ X.length + Y.length + 1 ∧ X.length + Y.length + 1 ≤ N ∧ (X.length : Int) + (Y.length : Int) + 1 = (N : Int) := ⟨X.length + Y.length + 1, by omega, by omega, by omega⟩
  go_enter Tryz.func127, Tryz.ntmps127
  go_wp2_with (at_make; refine wpList_make_full _ rfl _ _ 41 rfl w.heap.size 108 i0 (.int .u64 0) 1 Tryz.underlying41 hi hz0 hz1 .i64 .i64 _ _ N rfl rfl (by omega) (by omega) (by rw [hz2]; omega) (by unfold maxLen; omega) (Nat.le_refl _) ?_; intro w1 hown hgrow)
  have hb1 := Blk.made hown
  have hbel : Below w.heap.size w w1 := (Below.refl _ _).grown hgrow (Nat.le_refl _) (fun k hk => by cases hk)
  clear hown hgrow hi hz0 hz1 hz2
  go_loopw [21] (fun i wr => ∃ (k : Nat) (out : List Nat), k ≤ X.length ∧ i = .int .i64 k ∧ out.length = N ∧ out.getD (X.length + Y.length) 0 = 0 ∧ Digs 4294967296 out ∧ Blk wr w.heap.size out ∧ Below w.heap.size w wr ∧
      vb 4294967296 (out.take (k + Y.length)) = vb 4294967296 (X.take k) * vb 4294967296 Y) (fun i _ => X.length - (intOf i).toNat)
  case atStart => exact ⟨0, _, Nat.zero_le _, rfl, by simp, getD_zeros _ _, digs_replicate (by omega) _, hb1, hbel, by rw [List.take_replicate, vb_zeros]; simp [vb]⟩
  case round =>
    obtain ⟨k, out, hk, rfl, hlen, htop, hdo, hblk, hbl, hval⟩ := hrel
    clear hb1 hbel
    have HT := hide htop
    by_cases hkl : k < X.length
    · rcases L1.below hbl with h0 | ⟨b, off, rfl, hcell⟩
      · rw [h0] at hkl; simp at hkl
      · have hck := hcell k hkl
        have z1 := dig_lt (by omega) hX k
        have HX : Hid (X.getD k 0 = X.getD k 0) := rfl
        obtain ⟨x, hx⟩ : ∃ x, x = X.getD k 0 := ⟨_, rfl⟩
        rw [← hx] at hck z1
        have HXX := hide hx
        have HV := hide hval
        have HB := hide hblk
        have HL := hide hbl
        have HY := hide hY
        clear hx htop hval hblk hbl hcell L1 hX HX hY
        go_wp2
        go_loopw [8, 28] (fun c i wr2 => ∃ (j cy : Nat) (out2 : List Nat), j ≤ Y.length ∧ i = .int .i64 j ∧ c = .int .u64 cy ∧ cy < 4294967296 ∧ out2.length = N ∧ out2.getD (X.length + Y.length) 0 = 0 ∧ Digs 4294967296 out2 ∧ Blk wr2 w.heap.size out2 ∧ Below w.heap.size w wr2 ∧
            vb 4294967296 (out2.take (k + Y.length)) + cy * 4294967296 ^ (k + j) = vb 4294967296 (out.take (k + Y.length)) + 4294967296 ^ k * (x * vb 4294967296 (Y.take j))) (fun _ i _ => Y.length - (intOf i).toNat)
        case atStart => exact ⟨0, 0, out, Nat.zero_le _, rfl, rfl, by omega, hlen, HT.out, hdo, HB.out, HL.out, by simp [vb]⟩
        case round =>
          obtain ⟨j, cy, out2, hj, rfl, rfl, hcy, hlen2, htop2, hdo2, hblk, hbl, hval2⟩ := hrel
          have HT2 := hide htop2
          clear htop2
          by_cases hjl : j < Y.length
          · rcases L2.below hbl with h0 | ⟨b2, off2, rfl, hcell⟩
            · rw [h0] at hjl; simp at hjl
            · have hcj := hcell j hjl
              have hbw := Lies.block (L2 : Lies w (some ⟨b2, off2, none⟩) Y) (by omega)
              have hne1 : ¬ b2 = w.heap.size := by omega
              have hne2 : ¬ w.heap.size = b2 := by omega
              have z2 := dig_lt (by omega) HY.out j
              have hfr := hblk.free (k + j)
              have hco := hblk.cell (k + j) (by omega)
              have z3 := dig_lt (by omega) hdo2 (k + j)
              obtain ⟨bP, bS⟩ := rmul_fit x (Y.getD j 0) (out2.getD (k + j) 0) cy z1 z2 z3 hcy
              have HV2 := hide (rmul_step 4294967296 Y out2 k j (k + Y.length) x cy _ _ (by omega) (by omega) hval2 rfl)
              generalize Y.getD j 0 = y at *
              generalize out2.getD (k + j) 0 = o at *
              have e0 : (x : Int) * (y : Int) = ((x * y : Nat) : Int) := by push_cast; rfl
              generalize x * y = P at *
              have e1 : (P : Int) + (o : Int) = ((P + o : Nat) : Int) := by omega
              have b1 : P + o < 18446744073709551616 := by omega
              generalize P + o = S1 at *
              have e2 : (S1 : Int) + (cy : Int) = ((S1 + cy : Nat) : Int) := by omega
              generalize S1 + cy = S at *
              have e3 : (S : Int) % 4294967296 = ((S % 4294967296 : Nat) : Int) := by omega
              have e4 : (S : Int) / 4294967296 = ((S / 4294967296 : Nat) : Int) := by omega
              have bm : S % 4294967296 < 4294967296 := by omega
              have bd : S / 4294967296 < 4294967296 := by omega
              generalize S % 4294967296 = m at *
              generalize S / 4294967296 = d at *
              have HB2 := hide hblk
              have HL2 := hide hbl
              clear hval2 hblk hbl hcell L2 HB HL HV
              go_wp2
              go_roundw
              case rel => exact ⟨j + 1, d, out2.set (k + j) m, by omega, by go_num, rfl, bd, by simp; omega, by rw [getD_set_ne _ _ _ _ (by omega)]; exact HT2.out, digs_set hdo2 _ _ bm, HB2.out.set (k + j) m, HL2.out.setCell (Nat.le_refl _) _, HV2.out⟩
              case measure => simp [intOf]; omega
          · have ej : j = Y.length := by omega
            subst ej
            have HV3 := hide (rmul_round 4294967296 X Y out out2 k x cy HXX.out (by omega) HV.out hval2)
            have hfr := hblk.free (k + Y.length)
            have hco := hblk.cell (k + Y.length) (by omega)
            generalize out2.getD (k + Y.length) 0 = o at *
            have HB2 := hide hblk
            have HL2 := hide hbl
            clear hval2 hblk hbl L2 HB HL HV
            go_wp2
            go_roundw
            case rel => exact ⟨k + 1, out2.set (k + Y.length) cy, by omega, by go_num, by simp; omega, by rw [getD_set_ne _ _ _ _ (by omega)]; exact HT2.out, digs_set hdo2 _ _ hcy, HB2.out.set _ cy, HL2.out.setCell (Nat.le_refl _) _, HV3.out⟩
            case measure => simp [intOf]; omega
    · have ek : k = X.length := by omega
      subst ek
      have hA := Ans.of_blk (base := w.heap.size) (zs := out) (Nat.le_refl _) hblk List.take_length.symm (Nat.le_refl _) (by omega) (digs_limbs hdo)
      have H := norm_any _ _ _ (hA.arg (by omega)) hdo (by omega)
      have HL := hide hbl
      have hve : vb 4294967296 out = vb 4294967296 X * vb 4294967296 Y := by
        rw [List.take_length] at hval
        rw [← hval, ← vb_full (X.length + Y.length + 1) (by omega : out.length ≤ _), vb_take_next, htop]; simp
      rw [hlen, hve] at H
      clear hval hblk hbl hX hY hA hve L1 L2
      go_wp2_with fail
      refine H.mono ?_
      rintro e w2 ⟨⟨v', rfl, hnum⟩, rfl⟩
      have HN := hide hnum
      clear hnum H
      go_wp2
      go_ret
      exact ⟨⟨v', rfl, HN.out⟩, HL.out⟩

end Go.Proofs.YtppkhhbhnhijpaaGreatDoor

/- The reference's numbers: Div. -/
namespace Go.Proofs.YtppkhhbhnhijpaaGreatDoor
open Go.RowKit
open Lm
attribute [local go_sem ↓] Go.wp_at_zero Go.wp_at_succ

theorem bstep {a b c : World} (h : Below a.heap.size a b) (k : Below b.heap.size b c) : Below a.heap.size a c := h.trans (k.mono h.size)

theorem Below.one (w : World) (o : Obj) : Below w.heap.size w (w.alloc o) := (Below.refl _ _).alloc (Nat.le_refl _) _

theorem Blk.kept {w w' : World} {b : Nat} {xs : List Nat} (h : Blk w b xs) (hb : Below w.heap.size w w') : Blk w' b xs := by
  unfold Blk
  rw [hb.block b h.lt]; exact h

theorem Arg.one (w : World) (z : Nat) (hz : z < 18446744073709551616) : Arg (w.alloc (.cells #[.int .u64 (z : Int)] 108)) (.slice (some ⟨w.heap.size, 0, none⟩) 1 1) [z] := by
  have hb : Blk (w.alloc (.cells #[.int .u64 (z : Int)] 108)) w.heap.size [z] := by
    unfold Blk
    rw [heap_alloc_new]
    rfl
  exact ⟨⟨_, _, rfl, Nat.le_refl _, by simp, .inr ⟨_, 0, rfl, fun k hk => by rw [Nat.zero_add]; exact hb.cell k hk⟩⟩, by intro y hy; simp at hy; omega, by simp, fun n c e => by cases e⟩

set_option maxRecDepth 20000 in
set_option maxHeartbeats 1000000 in
theorem rdiv_any (v1 v2 : Value) (x y : Nat) (w : World) (h1 : Num w v1 x) (h2 : Num w v2 y) (hy : y ≠ 0) (f1 : blen x ≤ 1125899906840000) (f2 : blen y ≤ 1125899906810000) :
    Calls Tryz.prog 104 #[v1, v2] w fun e w' => (∃ vq vr, e = .returned (.tuple #[vq, vr]) ∧ Num w' vq (x / y) ∧ Num w' vr (x % y)) ∧ Below w.heap.size w w' := by
  obtain ⟨X, A1, hX, hXt, rfl, _⟩ := h1
  have lX := num_len hX hXt 35184372088750 (by omega)
  obtain ⟨a1, c1, rfl, hc1, hm1, L1⟩ := A1.form
  obtain ⟨i0, hi, hz0, hz1, hz2⟩ := info_parts Tryz.infoU
  have NY := hide h2
  have F2 := hide f2
  have HY0 := hide hy
  clear f1 f2 hXt A1 h2 hy
  go_enter Tryz.func104, Tryz.ntmps104
  go_wp2_with (at_make; refine wpList_make_full _ rfl _ _ 41 rfl w.heap.size 108 i0 (.int .u64 0) 1 Tryz.underlying41 hi hz0 hz1 .i64 .i64 _ _ X.length rfl rfl (by omega) (by omega) (by rw [hz2]; omega) (by unfold maxLen; omega) (Nat.le_refl _) ?_; intro w1 hown hgrow)
  have hb1 := Blk.made hown
  have hbel : Below w.heap.size w w1 := (Below.refl _ _).grown hgrow (Nat.le_refl _) (fun k hk => by cases hk)
  clear hown hgrow hi hz0 hz1 hz2
  go_loopw [6, 8] (fun r i wr => ∃ (k R : Nat) (out : List Nat), k ≤ X.length ∧ i = .int .i64 ((k : Int) - 1) ∧ Num wr r R ∧ New (w.heap.size + 1) r ∧ R < y ∧ out.length = X.length ∧ Digs 4294967296 out ∧ Blk wr w.heap.size out ∧ Below w.heap.size w wr ∧
      vb 4294967296 (X.drop k) = vb 4294967296 (out.drop k) * y + R) (fun _ i _ => (intOf i + 1).toNat)
  case atStart => exact ⟨X.length, 0, _, Nat.le_refl _, rfl, Num.nil _, New.nil _ _ _, by have := HY0.out; omega, by simp, digs_replicate (by omega) _, hb1, hbel, by simp [vb]⟩
  case round =>
    obtain ⟨k, R, out, hk, rfl, hnr, hnw0, hR, hlen, hdo, hblk, hbl, hval⟩ := hrel
    clear hb1 hbel
    by_cases hk0 : k = 0
    · subst hk0
      have hve := div_end _ y _ R hval hR
      rw [List.drop_zero, List.drop_zero] at hve
      have hA := Ans.of_blk (base := w.heap.size) (zs := out) (Nat.le_refl _) hblk List.take_length.symm (Nat.le_refl _) (by omega) (digs_limbs hdo)
      have H := norm_any _ _ _ (hA.arg (by omega)) hdo (by omega)
      rw [hlen, hve.1] at H
      have HR : Hid (Num wr u6 (vb 4294967296 X % y)) := hide (by rw [← hve.2]; exact hnr)
      have HL := hide hbl
      clear hval hblk hbl hX hA hve L1 hnr hnw0
      go_wp2_with fail
      refine H.mono ?_
      rintro e w2 ⟨⟨v', rfl, hnum⟩, rfl⟩
      have HN := hide hnum
      clear hnum H
      go_wp2
      go_ret2
      exact ⟨⟨v', u6, rfl, HN.out, HR.out⟩, HL.out⟩
    · obtain ⟨j, rfl⟩ : ∃ j, k = j + 1 := ⟨k - 1, by omega⟩
      rcases L1.below hbl with h0 | ⟨b, off, rfl, hcell⟩
      · rw [h0] at hk; simp at hk
      · have hck := hcell j (by omega)
        have hbw : b < wr.heap.size := Lies.block (zs := X) (.inr ⟨b, off, rfl, hcell⟩) (by omega)
        have ej : (((j + 1 : Nat) : Int) - 1) = (j : Int) := by omega
        rw [ej]
        have z1 := dig_lt (by omega) hX j
        have HST := hide (fun q R2 hq => rdiv_step X out j y R q R2 (by omega) (by omega) hval hq)
        have HRL := hide (rest_lt y R (X.getD j 0) hR z1)
        have hfR : blen R + 32 ≤ 1125899906840000 := by have := blen_lt_mono hR; have := F2.out; omega
        generalize X.getD j 0 = x at *
        have HC := hide (fun (u : World) (hu : Below wr.heap.size wr u) => (show u.cell? ⟨b, off + j, none⟩ = some (.int .u64 (x : Int)) by rw [hu.cell (p := ⟨b, off + j, none⟩) hbw]; exact hck))
        have D0 : Hid (Below wr.heap.size wr wr.drew) := hide ((Below.refl _ _).drew)
        obtain ⟨RS, hRS⟩ : ∃ RS, RS = R * 2 ^ 32 := ⟨_, rfl⟩
        have HSH := hide (fun (u : World) (hu : Below wr.heap.size wr u) => (by have h := rshl_any _ R 32 u (hnr.below hu) hfR; rw [← hRS] at h; exact h : Calls Tryz.prog 77 #[u6, .int .i64 32] u fun e w' => (∃ v', e = .returned v' ∧ Num w' v' RS) ∧ Below u.heap.size u w'))
        have ex : vb 4294967296 [x] = x := by simp [vb]
        have HNO := hide (fun (u : World) (v : Value) (hv : Arg u v [x]) => (by have h := norm_any v [x] u hv (by intro z hz; simp at hz; omega) (by simp); rw [ex] at h; exact h : Calls Tryz.prog 103 #[v] u fun e w' => (∃ v', e = .returned v' ∧ Num u v' x) ∧ w' = u))
        have hfA : blen RS ≤ 1125899906840000 := by rw [hRS]; have := blen_shift R 32; omega
        have hfB : blen x ≤ 1125899906840000 := by have := (blen_le_iff x 32).2 (by omega); omega
        have HAD := hide (fun (u : World) (va vb' : Value) (na : Num u va RS) (nb : Num u vb' x) => radd_new va vb' _ _ u na nb hfA hfB)
        have HB := hide hblk
        have HL := hide hbl
        rw [← hRS] at HST HRL
        have HRS := hide hRS
        clear hRS
        have hx18 : x < 18446744073709551616 := by omega
        have hi1 : (0 : Int) ≤ (j : Int) := by omega
        have hi2 : (j : Int) < (X.length : Int) := by omega
        have hnew := World.new_ne wr ⟨b, off + j, none⟩ hck
        clear hval hblk hbl hcell hnr hnw0 hX L1 ex hfA hfB
        go_wp2
        go_region_held3 (fun w' => w'.cell? ⟨b, off + j, none⟩ = some (.int .u64 x)) (go_keep) (first
          | (go_at_call 77; refine (HSH.out _ (by first | exact D0.out | exact bstep D0.out (Below.one _ _))).mono ?_; rintro e u1 ⟨⟨v1', rfl, N1⟩, b1⟩; (first | (have BU := bstep D0.out b1) | (have BU := bstep (bstep D0.out (Below.one _ _)) b1)); (have hkS := HC.out u1 BU); (try replace N2 := N2.below b1))
          | (go_at_call 103; refine (HNO.out _ _ (by first | exact Arg.one u1 x hx18 | exact Arg.one wr.drew x hx18 | exact (Arg.one wr.drew x hx18).below b1)).mono ?_; rintro e u2 ⟨⟨v2', rfl, N2⟩, hw⟩; subst hw)
          | (go_at_call 125; refine (HAD.out _ _ _ (by first | exact N1 | exact N1.below (Below.one _ _)) N2).mono ?_; rintro e u3 ⟨⟨v3, rfl, N3, nw3⟩, b3⟩; (first | (have B3 := bstep BU b3) | (have B3 := bstep (bstep BU (Below.one _ _)) b3)); (have hkS3 := HC.out u3 B3)))
        all_goals
          have N3' := hide N3
          have hsz3 : w.heap.size < wr.heap.size := HB.out.lt
          have NW3 : Hid (New (w.heap.size + 1) v3) := hide (nw3.mono (by first | (have := BU.size; omega) | (have := BU.size; simp; omega)))
          clear nw3 hsz3
          have BW := hide (HL.out.trans (B3.mono HL.out.size))
          have HB3 := hide (HB.out.kept B3)
          clear N1 N2 b1 b3 BU hkS hkS3 N3 B3 HSH HNO HAD HC D0 HB HL hck hnew HRS hfR hx18 hi2 hi1
          obtain ⟨R', hR'⟩ : ∃ R', R' = RS + x := ⟨_, rfl⟩
          rw [← hR'] at N3' HRL HST
          clear hR'
          have HCMP := rcmp_any v3 v2 R' y u3 N3'.out (NY.out.below BW.out)
          have hi1 : (0 : Int) ≤ (j : Int) := by omega
          have hi2 : (j : Int) < (X.length : Int) := by omega
          by_cases hlt : R' < y
          · have HST2 := hide (HST.out 0 R' (by omega))
            have hc : cmpN R' y = -1 := cmpN_lt hlt
            rw [hc] at HCMP
            go_wp2_with fail
            refine HCMP.mono ?_
            rintro e u4 ⟨rfl, hs⟩
            have BW4 := hide (BW.out.trans ((hs.below u3.heap.size).mono BW.out.size))
            have HN4 := hide (N3'.out.below (hs.below _))
            have hb4 := HB3.out.kept (hs.below _)
            have hfr := hb4.free j
            have hco := hb4.cell j (by omega)
            generalize out.getD j 0 = o at *
            have HB4 := hide hb4
            have HLT := hide hlt
            clear hb4 hs HCMP hc hlt HB3 BW N3' HST HRL
            go_wp2
            go_roundw
            case rel => exact ⟨j, R', out.set j 0, by omega, rfl, HN4.out.store NW3.out, NW3.out, HLT.out, by simp; omega, digs_set hdo _ _ (by omega), HB4.out.set j 0, BW4.out.setCell (Nat.le_refl _) _, HST2.out⟩
            case measure => simp [intOf]
          · have hd : decide (cmpN R' y ≥ 0) = true := by
              unfold cmpN; rw [if_neg hlt]; split <;> decide
            have hd2 : decide (0 ≤ cmpN R' y) = true := hd
            have HGE := hide hlt
            go_wp2_with fail
            refine HCMP.mono ?_
            rintro e u4 ⟨rfl, hs⟩
            generalize cmpN R' y = cc at *
            have BW4 := hide (BW.out.trans ((hs.below u3.heap.size).mono BW.out.size))
            have HN4 := hide (N3'.out.below (hs.below _))
            have HB4 := hide (HB3.out.kept (hs.below _))
            clear hs HCMP hlt HB3 BW N3'
            go_wp2
            go_loopw [6, 9, 10] (fun r q s wr2 => ∃ (t Q R2 : Nat), t ≤ 32 ∧ s = .int .i64 ((t : Int) - 1) ∧ q = .int .u64 Q ∧ Num wr2 r R2 ∧ New (w.heap.size + 1) r ∧ R' = Q * y + R2 ∧ R2 < y * 2 ^ t ∧ Q + 2 ^ t ≤ 4294967296 ∧ Blk wr2 w.heap.size out ∧ Below w.heap.size w wr2) (fun _ _ s _ => (intOf s + 1).toNat)
            case atStart => exact ⟨32, 0, R', Nat.le_refl _, rfl, rfl, HN4.out, NW3.out, by omega, HRL.out, by decide, HB4.out, BW4.out⟩
            case round =>
              obtain ⟨t, Q, R2, ht, rfl, rfl, hn2, hnw2, hsum, hR2, hQ, hblk2, hbl2⟩ := hrel
              clear HN4 HB4 BW4 hd hd2
              have HSUM := hide hsum
              have HR2 := hide hR2
              have HQ := hide hQ
              have HB5 := hide hblk2
              have HL5 := hide hbl2
              have HN5 := hide hn2
              have NW5 := hide hnw2
              clear hnw2 NW3
              clear hsum hR2 hQ
              by_cases ht0 : t = 0
              · subst ht0
                have HST2 := hide (HST.out Q R2 HSUM.out)
                have bQ : Q < 4294967296 := by have := HQ.out; rw [Nat.pow_zero] at this; omega
                have HLT : Hid (R2 < y) := hide (by have := HR2.out; rwa [Nat.pow_zero, Nat.mul_one] at this)
                have hfr := hblk2.free j
                have hco := hblk2.cell j (by omega)
                generalize out.getD j 0 = o at *
                clear hblk2 hbl2 hn2 HST HRL HSUM HQ HR2
                go_wp2
                go_roundw
                case rel => exact ⟨j, R2, out.set j Q, by omega, rfl, HN5.out.store NW5.out, NW5.out, HLT.out, by simp; omega, digs_set hdo _ _ bQ, HB5.out.set j Q, HL5.out.setCell (Nat.le_refl _) _, HST2.out⟩
                case measure => simp [intOf]
              · obtain ⟨m, rfl⟩ : ∃ m, t = m + 1 := ⟨t - 1, by omega⟩
                have em : (((m + 1 : Nat) : Int) - 1) = (m : Int) := by omega
                rw [em]
                have HS := rshl_any v2 y m wr (NY.out.below hbl2) (by have := F2.out; omega)
                have hfR2 : blen R2 ≤ 1125899906840000 := by
                  have h1 := blen_lt_mono HR2.out
                  have h2 := blen_shift y (m + 1)
                  have := F2.out
                  omega
                clear hblk2 hbl2 hn2
                go_wp2_with fail
                refine HS.mono ?_
                rintro e u5 ⟨⟨vx, rfl, Nx⟩, hb5⟩
                have HL6 := hide (HL5.out.trans (hb5.mono HL5.out.size))
                have HB6 := hide (HB5.out.kept hb5)
                have HN6 := hide (HN5.out.below hb5)
                have HCM := rcmp_any u6 vx R2 (y * 2 ^ m) u5 HN6.out Nx
                clear HS hb5 HL5 HB5 HN5
                by_cases hge : y * 2 ^ m ≤ R2
                · have hd : decide (cmpN R2 (y * 2 ^ m) ≥ 0) = true := by
                    unfold cmpN; rw [if_neg (by omega)]; split <;> decide
                  have hd2 : decide (0 ≤ cmpN R2 (y * 2 ^ m)) = true := hd
                  have HSUM2 := hide (half_sum y R' R2 Q m HSUM.out hge)
                  have HR3 := hide (half_down y R2 m HR2.out hge)
                  have HSB := fun (u : World) (ha : Num u u6 R2) (hb : Num u vx (y * 2 ^ m)) => rsub_new u6 vx R2 (y * 2 ^ m) u ha hb hge hfR2
                  have HQ2 : Hid (Q + 2 ^ m + 2 ^ m ≤ 4294967296) := hide (by have := HQ.out; rw [Nat.pow_succ] at this; omega)
                  have hP0 : 0 < 2 ^ m := Nat.two_pow_pos m
                  have HN7 := hide Nx
                  generalize cmpN R2 (y * 2 ^ m) = cc at *
                  generalize hYm : y * 2 ^ m = Y2 at *
                  have HYm := hide hYm
                  clear hYm
                  go_wp2_with fail
                  refine HCM.mono ?_
                  rintro e u7 ⟨rfl, hs⟩
                  have HL7 := hide (HL6.out.trans ((hs.below u5.heap.size).mono HL6.out.size))
                  have HB7 := hide (HB6.out.kept (hs.below _))
                  have HS7 := HSB u7 (HN6.out.below (hs.below _)) (HN7.out.below (hs.below _))
                  clear HCM hs HL6 HB6 HN6 HN7 Nx HSB
                  go_wp2_with fail
                  refine HS7.mono ?_
                  rintro e u8 ⟨⟨vr, rfl, Nr, nwr⟩, hb8⟩
                  have HL8 := hide (HL7.out.trans (hb8.mono HL7.out.size))
                  have HB8 := hide (HB7.out.kept hb8)
                  have HN8 := hide Nr
                  have NW8 : Hid (New (w.heap.size + 1) vr) := hide (nwr.mono HB7.out.lt)
                  clear HS7 hb8 Nr nwr HL7 HB7 hge hd hd2
                  obtain ⟨P, hP⟩ : ∃ P, P = 2 ^ m := ⟨_, rfl⟩
                  have HPm := hide hP
                  have eP : (2 : Int) ^ m = (P : Int) := by rw [hP]; push_cast; rfl
                  have bP : Q + P + P ≤ 4294967296 := by rw [hP]; exact HQ2.out
                  have bP0 : 0 < P := by rw [hP]; exact hP0
                  rw [← hP] at HSUM2
                  clear hP hP0 HQ2
                  have eQ : (Q : Int) + (P : Int) = ((Q + P : Nat) : Int) := by omega
                  generalize Q + P = Q2 at *
                  have wP : IntKind.u64.wrap (P : Int) = (P : Int) := by rw [IntKind.wrap_u64]; omega
                  have wQ : IntKind.u64.wrap (Q2 : Int) = (Q2 : Int) := by rw [IntKind.wrap_u64]; omega
                  go_wp2
                  go_roundw
                  case rel =>
                    refine ⟨m, Q2, R2 - Y2, by omega, rfl, rfl, HN8.out, NW8.out, HSUM2.out, ?_, ?_, HB8.out, HL8.out⟩
                    · rw [HYm.out]; exact HR3.out
                    · rw [← HPm.out]; exact bP
                  case measure => simp [intOf]
                · have hlt2 : R2 < y * 2 ^ m := by omega
                  have hc : cmpN R2 (y * 2 ^ m) = -1 := cmpN_lt hlt2
                  rw [hc] at HCM
                  have HLT2 := hide hlt2
                  have HQ2 : Hid (Q + 2 ^ m ≤ 4294967296) := hide (by have := HQ.out; rw [Nat.pow_succ] at this; omega)
                  clear hlt2 hc hge Nx
                  go_wp2_with fail
                  refine HCM.mono ?_
                  rintro e u7 ⟨rfl, hs⟩
                  have HL7 := hide (HL6.out.trans ((hs.below u5.heap.size).mono HL6.out.size))
                  have HB7 := hide (HB6.out.kept (hs.below _))
                  have HN7 := hide (HN6.out.below (hs.below _))
                  clear HCM hs HL6 HB6 HN6
                  go_wp2
                  go_roundw
                  case rel => exact ⟨m, Q, R2, by omega, rfl, rfl, HN7.out, NW5.out, HSUM.out, HLT2.out, HQ2.out, HB7.out, HL7.out⟩
                  case measure => simp [intOf]

end Go.Proofs.YtppkhhbhnhijpaaGreatDoor
