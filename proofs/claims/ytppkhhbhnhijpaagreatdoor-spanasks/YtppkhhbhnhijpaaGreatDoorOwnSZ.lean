/- Own of a list with room behind it. -/
import Derived.Test.YtppkhhbhnhijpaaGreatDoorQH
namespace Go.Proofs.YtppkhhbhnhijpaaGreatDoor
open Go.RowKit
open Lm
attribute [local go_sem ↓] Go.wp_at_zero Go.wp_at_succ

/-- Lists that lie apart from each other, and the list of them. -/
structure StX (sp : List Value) (w : World) (base L : Nat) (vs : List Value) (rows : Nat → List Nat) : Prop where
  list : w.heap[L]? = some (.cells (vs ++ sp).toArray 22 (0, 0))
  row : ∀ i, i < vs.length → Ans w base (vs.getD i nilV) (rows i)
  apart : ∀ i j, i < vs.length → j < vs.length → i ≠ j → (vs.getD i nilV).ownBlock = none ∨ (vs.getD i nilV).ownBlock ≠ (vs.getD j nilV).ownBlock

theorem StX.cell {sp : List Value} {w : World} {base L : Nat} {vs : List Value} {rows : Nat → List Nat} (h : StX sp w base L vs rows) (i : Nat) (hi : i < vs.length) : w.cell? ⟨L, i, none⟩ = some (vs.getD i nilV) := by
  simp [World.cell?, h.list, hi, List.getD, List.getElem?_append_left hi]

theorem StX.free {sp : List Value} {w : World} {base L : Nat} {vs : List Value} {rows : Nat → List Nat} (h : StX sp w base L vs rows) (i : Nat) : w.frozen? ⟨L, i, none⟩ = false := by
  simp [World.frozen?, h.list]

theorem StX.store {sp : List Value} {w : World} {base L : Nat} {vs : List Value} {rows : Nat → List Nat} (h : StX sp w base L vs rows) (i g cap : Nat) (hi : i < vs.length) (hv : vs.getD i nilV = .slice (some ⟨g, 0, none⟩) (rows i).length cap) (j z : Nat) (hz : z < 18446744073709551616) :
    StX sp (w.setCell ⟨g, j, none⟩ (.int .u64 (z : Int))) base L vs (upd rows i ((rows i).set j z)) := by
  have hri := h.row i hi
  have hne := hri.ne h.list
  rw [hv] at hne
  have hgL : L ≠ g := fun e => hne (by simp [Value.ownBlock, e])
  refine ⟨?_, fun m hm => ?_, h.apart⟩
  · rw [Below.heap_setCell _ _ _ _ hgL]; exact h.list
  · by_cases e : m = i
    · subst e
      rw [upd_same, hv]
      rw [hv] at hri
      have := hri.stored j z hz
      rw [List.length_set] at this
      exact this
    · rw [upd_other _ _ _ _ e]
      refine ⟨ownsRow_setCell_other (h.row m hm).own ?_ _, (h.row m hm).limbs⟩
      have := h.apart m i hm hi e
      rw [hv] at this
      rcases this with h1 | h1
      · rw [h1]; simp
      · simpa [Value.ownBlock] using h1

theorem StX.grow {sp : List Value} {w w2 : World} {base L : Nat} {vs : List Value} {rows : Nat → List Nat} (h : StX sp w base L vs rows) (k : Nat) (hk : k < vs.length) (o : Obj) (v' : Value) (r : List Nat)
    (ho : w2.ownsRow base 108 1 v' r.length (r.map lv)) (hl : Limbs r) (hg : (w.alloc o).grownBy w2 (vs.getD k nilV).ownBlock) (hat : v'.ownBlock = (vs.getD k nilV).ownBlock ∨ v'.ownBlock = some (w.alloc o).heap.size) :
    StX sp (w2.setCell ⟨L, k, none⟩ v') base L (vs.set k v') (upd rows k r) := by
  have hL := lt_of_block h.list
  have hsz : (w.alloc o).heap.size = w.heap.size + 1 := by simp
  have hneL := (h.row k hk).ne h.list
  have hL2 : w2.heap[L]? = some (.cells (vs ++ sp).toArray 22 (0, 0)) := by
    have e1 : (w.alloc o).heap[L]? = w.heap[L]? := Below.heap_alloc w o L hL
    rw [hg.block L (by omega) (fun e => hneL e.symm), e1]; exact h.list
  have hneL' : v'.ownBlock ≠ some L := by
    rcases hat with e | e
    · rw [e]; exact hneL
    · rw [e]; intro e2; simp at e2; omega
  refine ⟨?_, fun m hm => ?_, fun i j hi hj hij => ?_⟩
  · have hlt := lt_of_block hL2
    have h' : w2.heap[L] = .cells (vs ++ sp).toArray 22 (0, 0) := by simpa [Array.getElem?_eq_getElem hlt] using hL2
    show (w2.heap.modify L _)[L]? = _
    rw [Array.getElem?_eq_getElem (by simpa using hlt), Array.getElem_modify_self, h']
    simp [List.set_append_left _ _ hk]
  · rw [List.length_set] at hm
    by_cases e : m = k
    · subst e
      have ev : (vs.set m v').getD m nilV = v' := by simp [List.getD, hm]
      rw [upd_same, ev]
      exact ⟨ownsRow_setCell_other ho hneL' _, hl⟩
    · have ev : (vs.set k v').getD m nilV = vs.getD m nilV := by
        simp [List.getD, List.getElem?_set_ne (Ne.symm e)]
      rw [upd_other _ _ _ _ e, ev]
      have hr := h.row m hm
      refine ⟨ownsRow_setCell_other (((hr.own).alloc o).kept hg ?_) (hr.ne h.list) _, hr.limbs⟩
      exact h.apart m k hm hk e
  · rw [List.length_set] at hi hj
    have hlt : ∀ m, m < vs.length → ∀ g, (vs.getD m nilV).ownBlock = some g → g < w.heap.size := fun m hm g hg => ((h.row m hm).own.lt g hg).2
    by_cases e1 : i = k
    · subst e1
      have ev : (vs.set i v').getD i nilV = v' := by simp [List.getD, hi]
      have ev2 : (vs.set i v').getD j nilV = vs.getD j nilV := by simp [List.getD, List.getElem?_set_ne hij]
      rw [ev, ev2]
      rcases hat with e | e
      · rw [e]; exact h.apart i j hi hj hij
      · right
        rw [e]
        intro e2
        have := hlt j hj _ e2.symm
        omega
    · by_cases e2 : j = k
      · subst e2
        have ev : (vs.set j v').getD j nilV = v' := by simp [List.getD, hj]
        have ev2 : (vs.set j v').getD i nilV = vs.getD i nilV := by simp [List.getD, List.getElem?_set_ne (Ne.symm e1)]
        rw [ev, ev2]
        rcases hat with e | e
        · rw [e]; exact h.apart i j hi hj hij
        · right
          rw [e]
          intro e3
          have := hlt i hi _ e3
          omega
      · have ev : (vs.set k v').getD i nilV = vs.getD i nilV := by simp [List.getD, List.getElem?_set_ne (Ne.symm e1)]
        have ev2 : (vs.set k v').getD j nilV = vs.getD j nilV := by simp [List.getD, List.getElem?_set_ne (Ne.symm e2)]
        rw [ev, ev2]
        exact h.apart i j hi hj hij

theorem StX.congr {sp : List Value} {w : World} {base L : Nat} {vs : List Value} {rows rows' : Nat → List Nat} (h : StX sp w base L vs rows) (he : ∀ i, i < vs.length → rows i = rows' i) : StX sp w base L vs rows' :=
  ⟨h.list, fun i hi => by rw [← he i hi]; exact h.row i hi, h.apart⟩

theorem StX.kept {sp : List Value} {w w2 : World} {base L : Nat} {vs : List Value} {rows : Nat → List Nat} {v : Value} (h : StX sp w base L vs rows) (k : Nat) (hk : k < vs.length) (hv : vs.getD k nilV = v) (o : Obj) (hg : (w.alloc o).grownBy w2 v.ownBlock) :
    w2.cell? ⟨L, k, none⟩ = some v ∧ w2.frozen? ⟨L, k, none⟩ = false := by
  have hL := lt_of_block h.list
  have hneL := (h.row k hk).ne h.list
  rw [hv] at hneL
  have hsz : (w.alloc o).heap.size = w.heap.size + 1 := by simp
  have e : w2.heap[L]? = w.heap[L]? := by
    rw [hg.block L (by omega) (fun e => hneL e.symm)]; exact Below.heap_alloc w o L hL
  refine ⟨?_, ?_⟩
  · rw [World.cell?_of_block (w := w) (a := ⟨L, k, none⟩) e, h.cell k hk, hv]
  · rw [World.frozen?_of_block (w := w) (a := ⟨L, k, none⟩) e]; exact h.free k

set_option maxHeartbeats 1000000 in
theorem own_anyX (sp : List Value) (cap : Nat) (L base : Nat) (vs : List Value) (rows : Nat → List Nat) (w : World) (h : StX sp w base L vs rows) (hn : vs.length ≤ 1000) (hl : ∀ i, i < vs.length → (rows i).length ≤ 17592186044000) (hb : base ≤ L) :
    Calls Tryz.prog 46 #[.slice (some ⟨L, 0, none⟩) vs.length cap] w fun e w' => e = .returned (.bool true) ∧ BK base w w' := by
  go_enter Tryz.func46, Tryz.ntmps46
  go_wp2
  go_loopw [15] (fun i wr => ∃ k : Nat, k ≤ vs.length ∧ i = .int .i64 k ∧ StX sp wr base L vs (overTo rows k) ∧ BK base w wr) (fun i _ => vs.length - (intOf i).toNat)
  case atStart => exact ⟨0, Nat.zero_le _, rfl, h.congr (fun i _ => by simp [overTo]), BK.refl _ _⟩
  case round =>
    obtain ⟨k, hk, rfl, hst, hbl⟩ := hrel
    by_cases hkl : k < vs.length
    · have hck := hst.cell k hkl
      have hrow := hst.row k hkl
      have hrk : overTo rows k k = rows k := by simp [overTo]
      rw [hrk] at hrow
      have hlk := hl k hkl
      have ec : (k : Int) % 251 + 1 = ((k % 251 + 1 : Nat) : Int) := by omega
      have bc : k % 251 + 1 < 18446744073709551616 := by omega
      have HRK := hide hrk
      have HOV : Hid (over rows k = List.replicate (rows k).length (k % 251 + 1)) := rfl
      have HST := hide hst
      have HBL := hide hbl
      generalize k % 251 + 1 = c at *
      clear hst hbl hrk h
      rcases hrow.form with ⟨hv, hz⟩ | ⟨g, cap, hv, hg1, hg2, hcap, hmax, _, _⟩
      · rw [hv] at hck
        have HZ := hide hz
        clear hrow hv hz
        go_wp2
        refine wp_loop_rounds 1 ?_
        rw [rounds_succ]
        go_wp2
        go_roundw
        case rel =>
          refine ⟨k + 1, by omega, by go_num, HST.out.congr (fun m _ => ?_), HBL.out⟩
          by_cases e : m = k
          · subst e
            rw [HRK.out]
            simp [overTo, over, HZ.out]
          · exact overTo_step rows k m e
        case measure => simp [intOf]; omega
      · rw [hv] at hck
        go_wp2
        go_loopw [22] (fun i wr => ∃ j : Nat, j ≤ (rows k).length ∧ i = .int .i64 j ∧ StX sp wr base L vs (upd (overTo rows k) k (List.replicate j c ++ (rows k).drop j)) ∧ BK base w wr) (fun i _ => (rows k).length - (intOf i).toNat)
        case atStart =>
          refine ⟨0, Nat.zero_le _, rfl, HST.out.congr (fun m _ => ?_), HBL.out⟩
          by_cases e : m = k
          · subst e; rw [HRK.out, upd_same]; simp
          · rw [upd_other _ _ _ _ e]
        case round =>
          obtain ⟨j, hj, rfl, hst, hbl⟩ := hrel
          clear HST HBL
          by_cases hjl : j < (rows k).length
          · have hr2 := hst.row k hkl
            rw [upd_same] at hr2
            have hfl := fill_length (rows k) j c hj
            rcases hr2.form with ⟨hv2, _⟩ | ⟨g', cap', hv2, hg1', hg2', _, _, hfr', hcl'⟩
            · rw [hv2] at hv; cases hv
            · have hgg : g' = g := by rw [hv2] at hv; simp only [Value.slice.injEq, Option.some.injEq, Addr.mk.injEq] at hv; exact hv.1.1
              subst hgg
              have hfr := hfr' j
              have hco := hcl' j (by omega)
              have hst2 := hst.store k g' cap' hkl (by rw [upd_same]; exact hv2) j c bc
              rw [upd_same, fill_set (rows k) j c hjl] at hst2
              have HS := hide hst2
              have HL := hide (hbl.store (hv2 ▸ hr2) j (.int .u64 (c : Int)))
              generalize (List.replicate j c ++ (rows k).drop j).getD j 0 = o at *
              clear hst hbl hst2 hr2 hv2 hfr' hcl' hrow hv hck hfl
              go_wp2
              go_roundw
              case rel =>
                refine ⟨j + 1, by omega, by go_num, HS.out.congr (fun m _ => ?_), HL.out⟩
                by_cases e : m = k
                · subst e; rw [upd_same, upd_same]
                · rw [upd_other _ _ _ _ e, upd_other _ _ _ _ e, upd_other _ _ _ _ e]
              case measure => simp [intOf]; omega
          · have ej : j = (rows k).length := by omega
            subst ej
            have HS := hide hst
            have HL := hide hbl
            clear hst hbl hrow hv hck
            go_wp2
            go_roundw
            case rel =>
              refine ⟨k + 1, by omega, by go_num, HS.out.congr (fun m _ => ?_), HL.out⟩
              by_cases e : m = k
              · subst e
                rw [upd_same]
                have : overTo rows (m + 1) m = over rows m := by simp [overTo]
                rw [this, HOV.out]; simp
              · rw [upd_other _ _ _ _ e]; exact overTo_step rows k m e
            case measure => simp [intOf]; omega
    · have ek : k = vs.length := by omega
      subst ek
      have hst3 : StX sp wr base L vs (over rows) := hst.congr (fun m hm => by simp [overTo, hm])
      have HST := hide hst3
      have HBL := hide hbl
      clear hst hbl hst3 h
      obtain ⟨i0, hi, hz0, hz1, hz2⟩ := info_parts Tryz.infoU
      go_wp2
      go_loopw [36] (fun i wr => ∃ (k : Nat) (us : List Value), k ≤ vs.length ∧ us.length = vs.length ∧ i = .int .i64 k ∧ StX sp wr base L us (fun m => if m < k then over rows m ++ five (300 + 5 * m) else over rows m) ∧ BK base w wr) (fun i _ => vs.length - (intOf i).toNat)
      case atStart => exact ⟨0, vs, Nat.zero_le _, rfl, rfl, HST.out.congr (fun m _ => by simp), HBL.out⟩
      case round =>
        obtain ⟨k, us, hk', hus, rfl, hst, hbl⟩ := hrel
        clear HST HBL
        by_cases hkl' : k < vs.length
        · have hku : k < us.length := by omega
          have hck := hst.cell k hku
          have hrow := hst.row k hku
          simp only [Nat.lt_irrefl, if_false] at hrow
          have hfr := hst.free k
          have hlen : (over rows k).length ≤ 17592186044000 := by unfold over; rw [List.length_replicate]; exact hl k hkl'
          have eb : (300 : Int) + 5 * (k : Int) = ((300 + 5 * k : Nat) : Int) := by omega
          have HST := hide hst
          have HBL := hide hbl
          have HV := hide (rfl : us.getD k nilV = us.getD k nilV)
          have HB5 : Hid (300 + 5 * k < 6000) := by unfold Hid; omega
          obtain ⟨bb, hbb⟩ : ∃ bb, bb = 300 + 5 * k := ⟨_, rfl⟩
          rw [← hbb] at eb
          have hb6 : bb < 6000 := by omega
          have HBB := hide hbb
          generalize hv : us.getD k nilV = v at *
          have HVV := hide hv
          obtain ⟨b1, h1⟩ : ∃ b1, b1 = bb + 1 := ⟨_, rfl⟩
          obtain ⟨b2, h2⟩ : ∃ b2, b2 = bb + 2 := ⟨_, rfl⟩
          obtain ⟨b3, h3⟩ : ∃ b3, b3 = bb + 3 := ⟨_, rfl⟩
          obtain ⟨b4, h4⟩ : ∃ b4, b4 = bb + 4 := ⟨_, rfl⟩
          have g1 : (bb : Int) + 1 = (b1 : Int) := by omega
          have g2 : (bb : Int) + 2 = (b2 : Int) := by omega
          have g3 : (bb : Int) + 3 = (b3 : Int) := by omega
          have g4 : (bb : Int) + 4 = (b4 : Int) := by omega
          have q1 : b1 < 18446744073709551616 := by omega
          have q2 : b2 < 18446744073709551616 := by omega
          have q3 : b3 < 18446744073709551616 := by omega
          have q4 : b4 < 18446744073709551616 := by omega
          have H5 : Hid ([bb, b1, b2, b3, b4] = five (300 + 5 * k)) := hide (by rw [h1, h2, h3, h4, hbb]; rfl)
          clear hst hbl hv hbb HV h1 h2 h3 h4
          go_wp2_with (at_builtin; refine wpList_append_own_at _ rfl _ _ 22 rfl base 108 i0 (.int .u64 0) 1 8 Tryz.underlying22 hi hz0 hz1 hz2 rfl (by decide) v (over rows k).length _ rfl (hrow.own.alloc _) ⟨wr.heap.size, 0, none⟩ 5 5 ([bb, b1, b2, b3, b4].map lv) rfl rfl (news_cells [bb, b1, b2, b3, b4]) (lv_oneCell _) (by unfold maxLen; omega) (by omega) (by have := lt_of_block HST.out.list; simp; omega) ?_; intro v' w2 hown2 hgrow2 _ hat2; have hkp := HST.out.kept k hku HVV.out _ hgrow2; have hck2 := hkp.1; have hfr2 := hkp.2; clear hkp; obtain ⟨g5, cap5, hv5⟩ := own_shape hown2 (by omega); subst hv5; have HO := hide hown2; have HG := hide hgrow2; have HAT := hide hat2; clear hown2 hgrow2 hat2)
          go_roundw
          case rel =>
            refine ⟨k + 1, us.set k _, by omega, by rw [List.length_set]; exact hus, by go_num, (HST.out.grow k hku _ _ (over rows k ++ five (300 + 5 * k)) ?_ ?_ (by rw [HVV.out]; exact HG.out) (by rw [HVV.out]; exact HAT.out)).congr (fun m _ => ?_), ?_⟩
            · rw [← H5.out, List.length_append, List.map_append]; exact HO.out
            · exact row_limbs rows k (by omega)
            · by_cases e : m = k
              · subst e; rw [upd_same]; simp
              · rw [upd_other _ _ _ _ e]
                by_cases h1 : m < k
                · rw [if_pos h1, if_pos (by omega)]
                · rw [if_neg h1, if_neg (by omega)]
            · have hLs := lt_of_block HST.out.list
              exact HBL.out.grew hrow HST.out.list hb HG.out k _
          case measure => simp [intOf]; omega
        · have ek : k = vs.length := by omega
          subst ek
          have hst4 : StX sp wr base L us (fun m => over rows m ++ five (300 + 5 * m)) := hst.congr (fun m hm => by simp [show m < vs.length by omega])
          have HST := hide hst4
          have HBL := hide hbl
          clear hst hbl hst4 hi hz0 hz1 hz2
          go_wp2
          go_loop [64] (fun i => ∃ k : Nat, k ≤ vs.length ∧ i = .int .i64 k) (fun i => vs.length - (intOf i).toNat)
          case atStart => exact ⟨0, Nat.zero_le _, rfl⟩
          case round =>
            obtain ⟨k, hk4, rfl⟩ := hrel
            by_cases hkl4 : k < vs.length
            · have hku : k < us.length := by omega
              have hck := HST.out.cell k hku
              have hrow := HST.out.row k hku
              have hlr : (over rows k ++ five (300 + 5 * k)).length = (rows k).length + 5 := by simp [over, five]
              rcases hrow.form with ⟨_, h0⟩ | ⟨g, cap, hv, _, _, hgl, hgm, _, hgc⟩
              · rw [h0] at hlr; simp at hlr
              · rw [hlr] at hv hgl hgc
                rw [hv] at hck
                have hzl := hl k hkl4
                have HGC := hide hgc
                clear hrow hgc hv hlr
                go_wp2
                go_loop [71] (fun i => ∃ j : Nat, j ≤ (rows k).length + 5 ∧ i = .int .i64 j) (fun i => (rows k).length + 5 - (intOf i).toNat)
                case atStart => exact ⟨0, Nat.zero_le _, rfl⟩
                case round =>
                  obtain ⟨j, hj, rfl⟩ := hrel
                  by_cases hjl : j < (rows k).length + 5
                  · have hcj := HGC.out j hjl
                    by_cases hj2 : j < (rows k).length
                    · rw [row_low rows k j hj2] at hcj
                      have ec : (k : Int) % 251 + 1 = ((k % 251 + 1 : Nat) : Int) := by omega
                      have bc : k % 251 + 1 < 18446744073709551616 := by omega
                      generalize k % 251 + 1 = c at *
                      have hne : ((c : Int) != (c : Int)) = false := by simp
                      have i1 : (j : Int) < ((rows k).length : Int) := by omega
                      have hd2 : decide (((rows k).length : Int) ≤ (j : Int)) = false := decide_eq_false (by omega)
                      generalize (rows k).length = zl at *
                      go_wp2
                      go_round
                      case rel => exact ⟨j + 1, by omega, by go_num⟩
                      case measure => simp [intOf]; omega
                    · rw [row_high rows k j (by omega) hjl] at hcj
                      have hd1 : decide ((j : Int) < ((rows k).length : Int)) = false := decide_eq_false (by omega)
                      have i1 : ((rows k).length : Int) ≤ (j : Int) := by omega
                      generalize (rows k).length = zl at *
                      obtain ⟨t, ht⟩ : ∃ t, t = 300 + 5 * k + (j - zl) := ⟨_, rfl⟩
                      rw [← ht] at hcj
                      have et : (300 : Int) + 5 * (k : Int) + (j : Int) - ((zl : Int) + 5) + 5 = (t : Int) := by omega
                      have bt : t < 18446744073709551616 := by omega
                      have hne : ((t : Int) != (t : Int)) = false := by simp
                      have HT := hide ht
                      clear ht
                      go_wp2
                      go_round
                      case rel => exact ⟨j + 1, by omega, by go_num⟩
                      case measure => simp [intOf]; omega
                  · go_wp2
                    go_round
                    case rel => exact ⟨k + 1, by omega, by go_num⟩
                    case measure => simp [intOf]; omega
            · go_wp2
              go_ret
              exact ⟨rfl, HBL.out⟩

end Go.Proofs.YtppkhhbhnhijpaaGreatDoor
