/- Own, once more: it leaves alone every block but the lists' own and the list of lists. -/
import Derived.Test.YtlengglmnbpkbaaDoorQH
namespace Go.Proofs.YtlengglmnbpkbaaDoor
open Go.RowKit
open Lm
attribute [local go_sem ↓] Go.wp_at_zero Go.wp_at_succ

/-- The blocks that Own may turn. -/
def Turns (vs : List Value) (L : Nat) (g : Nat) : Prop := g = L ∨ ∃ i, i < vs.length ∧ (vs.getD i nilV).ownBlock = some g

/-- Nothing below base has turned, and no block but those. -/
structure BW (P : Nat → Prop) (base : Nat) (w w' : World) : Prop where
  below : Below base w w'
  other : ∀ (g : Nat) (x : Obj), ¬ P g → w.heap[g]? = some x → w'.heap[g]? = some x

theorem BW.refl (P : Nat → Prop) (base : Nat) (w : World) : BW P base w w := ⟨Below.refl _ _, fun _ _ _ h => h⟩

theorem BW.store {P : Nat → Prop} {base : Nat} {w wr : World} {g n cap : Nat} {zs : List Nat} (h : BW P base w wr) (ha : Ans wr base (.slice (some ⟨g, 0, none⟩) n cap) zs) (hP : P g) (j : Nat) (u : Value) : BW P base w (wr.setCell ⟨g, j, none⟩ u) := by
  obtain ⟨_, h2⟩ := ha.own
  rcases h2 with ⟨e, _⟩ | ⟨g', cap', cur, e, hge, hh, _⟩
  · cases e
  · simp only [Value.slice.injEq, Option.some.injEq, Addr.mk.injEq] at e
    obtain ⟨⟨rfl, _⟩, _⟩ := e
    refine ⟨h.below.setCell (p := ⟨g, j, none⟩) hge u, fun g2 x hn hc => ?_⟩
    rw [Below.heap_setCell _ _ _ _ (by rintro rfl; exact hn hP)]
    exact h.other g2 x hn hc

theorem BW.grew {P : Nat → Prop} {base : Nat} {w wr w2 : World} {v : Value} {zs : List Nat} {L : Nat} {vs : Array Value} {o : Obj} (h : BW P base w wr) (hrow : Ans wr base v zs) (hL : wr.heap[L]? = some (.cells vs 25 (0, 0))) (hb : base ≤ L) (hPv : ∀ g, v.ownBlock = some g → P g) (hPL : P L) (hg : (wr.alloc o).grownBy w2 v.ownBlock) (k : Nat) (u : Value) :
    BW P base w (w2.setCell ⟨L, k, none⟩ u) := by
  have hLs := lt_of_block hL
  refine ⟨((h.below.alloc (by omega) _).grown hg (by simp; omega) (fun g hg => (hrow.own.lt g hg).1)).setCell hb _, fun g2 x hn hc => ?_⟩
  have h1 := h.other g2 x hn hc
  have h1s := lt_of_block h1
  have hsz : (wr.alloc o).heap.size = wr.heap.size + 1 := by simp
  rw [Below.heap_setCell _ _ _ _ (by rintro rfl; exact hn hPL)]
  have e1 : (wr.alloc o).heap[g2]? = wr.heap[g2]? := Below.heap_alloc wr o g2 h1s
  rw [hg.block g2 (by omega) (fun e => hn (hPv g2 e.symm)), e1]
  exact h1

set_option maxHeartbeats 1000000 in
theorem own_anyW (L base : Nat) (vs : List Value) (rows : Nat → List Nat) (w : World) (h : St w base L vs rows) (hn : vs.length ≤ 1000) (hl : ∀ i, i < vs.length → (rows i).length ≤ 17592186044000) (hb : base ≤ L) :
    Calls Tryd.prog 25 #[.slice (some ⟨L, 0, none⟩) vs.length vs.length] w fun e w' => e = .returned (.bool true) ∧ BW (Turns vs L) base w w' := by
  go_enter Tryd.func25, Tryd.ntmps25
  go_wp2
  go_loopw [15] (fun i wr => ∃ k : Nat, k ≤ vs.length ∧ i = .int .i64 k ∧ St wr base L vs (overTo rows k) ∧ BW (Turns vs L) base w wr) (fun i _ => vs.length - (intOf i).toNat)
  case atStart => exact ⟨0, Nat.zero_le _, rfl, h.congr (fun i _ => by simp [overTo]), BW.refl _ _ _⟩
  case round =>
    obtain ⟨k, hk, rfl, hst, hbl⟩ := hrel
    by_cases hkl : k < vs.length
    · have hck := hst.cell k hkl
      have hrow := hst.row k hkl
      have hrk : overTo rows k k = rows k := by simp [overTo]
      rw [hrk] at hrow
      have hlk := hl k hkl
      have ec : (k : Int) % 251 + 1 = ((k % 251 + 1 : Nat) : Int) := by omega
      have bc : k % 251 + 1 < 18446744073709551616 := by omega
      have HRK := hide hrk
      have HOV : Hid (over rows k = List.replicate (rows k).length (k % 251 + 1)) := rfl
      have HST := hide hst
      have HBL := hide hbl
      generalize k % 251 + 1 = c at *
      clear hst hbl hrk h
      rcases hrow.form with ⟨hv, hz⟩ | ⟨g, cap, hv, hg1, hg2, hcap, hmax, _, _⟩
      · rw [hv] at hck
        have HZ := hide hz
        clear hrow hv hz
        go_wp2
        refine wp_loop_rounds 1 ?_
        rw [rounds_succ]
        go_wp2
        go_roundw
        case rel =>
          refine ⟨k + 1, by omega, by go_num, HST.out.congr (fun m _ => ?_), HBL.out⟩
          by_cases e : m = k
          · subst e
            rw [HRK.out]
            simp [overTo, over, HZ.out]
          · exact overTo_step rows k m e
        case measure => simp [intOf]; omega
      · rw [hv] at hck
        go_wp2
        go_loopw [22] (fun i wr => ∃ j : Nat, j ≤ (rows k).length ∧ i = .int .i64 j ∧ St wr base L vs (upd (overTo rows k) k (List.replicate j c ++ (rows k).drop j)) ∧ BW (Turns vs L) base w wr) (fun i _ => (rows k).length - (intOf i).toNat)
        case atStart =>
          refine ⟨0, Nat.zero_le _, rfl, HST.out.congr (fun m _ => ?_), HBL.out⟩
          by_cases e : m = k
          · subst e; rw [HRK.out, upd_same]; simp
          · rw [upd_other _ _ _ _ e]
        case round =>
          obtain ⟨j, hj, rfl, hst, hbl⟩ := hrel
          clear HST HBL
          by_cases hjl : j < (rows k).length
          · have hr2 := hst.row k hkl
            rw [upd_same] at hr2
            have hfl := fill_length (rows k) j c hj
            rcases hr2.form with ⟨hv2, _⟩ | ⟨g', cap', hv2, hg1', hg2', _, _, hfr', hcl'⟩
            · rw [hv2] at hv; cases hv
            · have hgg : g' = g := by rw [hv2] at hv; simp only [Value.slice.injEq, Option.some.injEq, Addr.mk.injEq] at hv; exact hv.1.1
              subst hgg
              have hfr := hfr' j
              have hco := hcl' j (by omega)
              have hst2 := hst.store k g' cap' hkl (by rw [upd_same]; exact hv2) j c bc
              rw [upd_same, fill_set (rows k) j c hjl] at hst2
              have HS := hide hst2
              have HL := hide (hbl.store (hv2 ▸ hr2) (.inr ⟨k, hkl, by rw [hv2]; rfl⟩) j (.int .u64 (c : Int)))
              generalize (List.replicate j c ++ (rows k).drop j).getD j 0 = o at *
              clear hst hbl hst2 hr2 hv2 hfr' hcl' hrow hv hck hfl
              go_wp2
              go_roundw
              case rel =>
                refine ⟨j + 1, by omega, by go_num, HS.out.congr (fun m _ => ?_), HL.out⟩
                by_cases e : m = k
                · subst e; rw [upd_same, upd_same]
                · rw [upd_other _ _ _ _ e, upd_other _ _ _ _ e, upd_other _ _ _ _ e]
              case measure => simp [intOf]; omega
          · have ej : j = (rows k).length := by omega
            subst ej
            have HS := hide hst
            have HL := hide hbl
            clear hst hbl hrow hv hck
            go_wp2
            go_roundw
            case rel =>
              refine ⟨k + 1, by omega, by go_num, HS.out.congr (fun m _ => ?_), HL.out⟩
              by_cases e : m = k
              · subst e
                rw [upd_same]
                have : overTo rows (m + 1) m = over rows m := by simp [overTo]
                rw [this, HOV.out]; simp
              · rw [upd_other _ _ _ _ e]; exact overTo_step rows k m e
            case measure => simp [intOf]; omega
    · have ek : k = vs.length := by omega
      subst ek
      have hst3 : St wr base L vs (over rows) := hst.congr (fun m hm => by simp [overTo, hm])
      have HST := hide hst3
      have HBL := hide hbl
      clear hst hbl hst3 h
      obtain ⟨i0, hi, hz0, hz1, hz2⟩ := info_parts Tryd.infoU
      go_wp2
      go_loopw [36] (fun i wr => ∃ (k : Nat) (us : List Value), k ≤ vs.length ∧ us.length = vs.length ∧ i = .int .i64 k ∧ (∀ m, k ≤ m → us.getD m nilV = vs.getD m nilV) ∧ St wr base L us (fun m => if m < k then over rows m ++ five (300 + 5 * m) else over rows m) ∧ BW (Turns vs L) base w wr) (fun i _ => vs.length - (intOf i).toNat)
      case atStart => exact ⟨0, vs, Nat.zero_le _, rfl, rfl, fun _ _ => rfl, HST.out.congr (fun m _ => by simp), HBL.out⟩
      case round =>
        obtain ⟨k, us, hk', hus, rfl, hsm, hst, hbl⟩ := hrel
        have HSM := hide hsm
        clear HST HBL hsm
        by_cases hkl' : k < vs.length
        · have hku : k < us.length := by omega
          have hck := hst.cell k hku
          have hrow := hst.row k hku
          simp only [Nat.lt_irrefl, if_false] at hrow
          have hfr := hst.free k
          have hlen : (over rows k).length ≤ 17592186044000 := by unfold over; rw [List.length_replicate]; exact hl k hkl'
          have eb : (300 : Int) + 5 * (k : Int) = ((300 + 5 * k : Nat) : Int) := by omega
          have HST := hide hst
          have HBL := hide hbl
          have HV := hide (rfl : us.getD k nilV = us.getD k nilV)
          have HB5 : Hid (300 + 5 * k < 6000) := by unfold Hid; omega
          obtain ⟨bb, hbb⟩ : ∃ bb, bb = 300 + 5 * k := ⟨_, rfl⟩
          rw [← hbb] at eb
          have hb6 : bb < 6000 := by omega
          have HBB := hide hbb
          generalize hv : us.getD k nilV = v at *
          have HVV := hide hv
          obtain ⟨b1, h1⟩ : ∃ b1, b1 = bb + 1 := ⟨_, rfl⟩
          obtain ⟨b2, h2⟩ : ∃ b2, b2 = bb + 2 := ⟨_, rfl⟩
          obtain ⟨b3, h3⟩ : ∃ b3, b3 = bb + 3 := ⟨_, rfl⟩
          obtain ⟨b4, h4⟩ : ∃ b4, b4 = bb + 4 := ⟨_, rfl⟩
          have g1 : (bb : Int) + 1 = (b1 : Int) := by omega
          have g2 : (bb : Int) + 2 = (b2 : Int) := by omega
          have g3 : (bb : Int) + 3 = (b3 : Int) := by omega
          have g4 : (bb : Int) + 4 = (b4 : Int) := by omega
          have q1 : b1 < 18446744073709551616 := by omega
          have q2 : b2 < 18446744073709551616 := by omega
          have q3 : b3 < 18446744073709551616 := by omega
          have q4 : b4 < 18446744073709551616 := by omega
          have H5 : Hid ([bb, b1, b2, b3, b4] = five (300 + 5 * k)) := hide (by rw [h1, h2, h3, h4, hbb]; rfl)
          clear hst hbl hv hbb HV h1 h2 h3 h4
          go_wp2_with (at_builtin; refine wpList_append_own_at _ rfl _ _ 25 rfl base 65 i0 (.int .u64 0) 1 8 Tryd.underlying25 hi hz0 hz1 hz2 rfl (by decide) v (over rows k).length _ rfl (hrow.own.alloc _) ⟨wr.heap.size, 0, none⟩ 5 5 ([bb, b1, b2, b3, b4].map lv) rfl rfl (news_cells [bb, b1, b2, b3, b4]) (lv_oneCell _) (by unfold maxLen; omega) (by omega) (by have := lt_of_block HST.out.list; simp; omega) ?_; intro v' w2 hown2 hgrow2 _ hat2; have hkp := HST.out.kept k hku HVV.out _ hgrow2; have hck2 := hkp.1; have hfr2 := hkp.2; clear hkp; obtain ⟨g5, cap5, hv5⟩ := own_shape hown2 (by omega); subst hv5; have HO := hide hown2; have HG := hide hgrow2; have HAT := hide hat2; clear hown2 hgrow2 hat2)
          go_roundw
          case rel =>
            refine ⟨k + 1, us.set k _, by omega, by rw [List.length_set]; exact hus, by go_num, (fun m hm => by rw [← HSM.out m (by omega)]; simp [List.getD, show k ≠ m by omega]), (HST.out.grow k hku _ _ (over rows k ++ five (300 + 5 * k)) ?_ ?_ (by rw [HVV.out]; exact HG.out) (by rw [HVV.out]; exact HAT.out)).congr (fun m _ => ?_), ?_⟩
            · rw [← H5.out, List.length_append, List.map_append]; exact HO.out
            · exact row_limbs rows k (by omega)
            · by_cases e : m = k
              · subst e; rw [upd_same]; simp
              · rw [upd_other _ _ _ _ e]
                by_cases h1 : m < k
                · rw [if_pos h1, if_pos (by omega)]
                · rw [if_neg h1, if_neg (by omega)]
            · have hLs := lt_of_block HST.out.list
              exact HBL.out.grew hrow HST.out.list hb (fun g hg => .inr ⟨k, hkl', by rw [← HSM.out k (Nat.le_refl _), HVV.out]; exact hg⟩) (.inl rfl) HG.out k _
          case measure => simp [intOf]; omega
        · have ek : k = vs.length := by omega
          subst ek
          have hst4 : St wr base L us (fun m => over rows m ++ five (300 + 5 * m)) := hst.congr (fun m hm => by simp [show m < vs.length by omega])
          have HST := hide hst4
          have HBL := hide hbl
          clear hst hbl hst4 hi hz0 hz1 hz2
          go_wp2
          go_loop [64] (fun i => ∃ k : Nat, k ≤ vs.length ∧ i = .int .i64 k) (fun i => vs.length - (intOf i).toNat)
          case atStart => exact ⟨0, Nat.zero_le _, rfl⟩
          case round =>
            obtain ⟨k, hk4, rfl⟩ := hrel
            by_cases hkl4 : k < vs.length
            · have hku : k < us.length := by omega
              have hck := HST.out.cell k hku
              have hrow := HST.out.row k hku
              have hlr : (over rows k ++ five (300 + 5 * k)).length = (rows k).length + 5 := by simp [over, five]
              rcases hrow.form with ⟨_, h0⟩ | ⟨g, cap, hv, _, _, hgl, hgm, _, hgc⟩
              · rw [h0] at hlr; simp at hlr
              · rw [hlr] at hv hgl hgc
                rw [hv] at hck
                have hzl := hl k hkl4
                have HGC := hide hgc
                clear hrow hgc hv hlr
                go_wp2
                go_loop [71] (fun i => ∃ j : Nat, j ≤ (rows k).length + 5 ∧ i = .int .i64 j) (fun i => (rows k).length + 5 - (intOf i).toNat)
                case atStart => exact ⟨0, Nat.zero_le _, rfl⟩
                case round =>
                  obtain ⟨j, hj, rfl⟩ := hrel
                  by_cases hjl : j < (rows k).length + 5
                  · have hcj := HGC.out j hjl
                    by_cases hj2 : j < (rows k).length
                    · rw [row_low rows k j hj2] at hcj
                      have ec : (k : Int) % 251 + 1 = ((k % 251 + 1 : Nat) : Int) := by omega
                      have bc : k % 251 + 1 < 18446744073709551616 := by omega
                      generalize k % 251 + 1 = c at *
                      have hne : ((c : Int) != (c : Int)) = false := by simp
                      have i1 : (j : Int) < ((rows k).length : Int) := by omega
                      have hd2 : decide (((rows k).length : Int) ≤ (j : Int)) = false := decide_eq_false (by omega)
                      generalize (rows k).length = zl at *
                      go_wp2
                      go_round
                      case rel => exact ⟨j + 1, by omega, by go_num⟩
                      case measure => simp [intOf]; omega
                    · rw [row_high rows k j (by omega) hjl] at hcj
                      have hd1 : decide ((j : Int) < ((rows k).length : Int)) = false := decide_eq_false (by omega)
                      have i1 : ((rows k).length : Int) ≤ (j : Int) := by omega
                      generalize (rows k).length = zl at *
                      obtain ⟨t, ht⟩ : ∃ t, t = 300 + 5 * k + (j - zl) := ⟨_, rfl⟩
                      rw [← ht] at hcj
                      have et : (300 : Int) + 5 * (k : Int) + (j : Int) - ((zl : Int) + 5) + 5 = (t : Int) := by omega
                      have bt : t < 18446744073709551616 := by omega
                      have hne : ((t : Int) != (t : Int)) = false := by simp
                      have HT := hide ht
                      clear ht
                      go_wp2
                      go_round
                      case rel => exact ⟨j + 1, by omega, by go_num⟩
                      case measure => simp [intOf]; omega
                  · go_wp2
                    go_round
                    case rel => exact ⟨k + 1, by omega, by go_num⟩
                    case measure => simp [intOf]; omega
            · go_wp2
              go_ret
              exact ⟨rfl, HBL.out⟩

theorem own_apartsW (base : Nat) (vs : List Value) (rss : List (List Nat)) (w : World) (h : Aparts w base vs rss) (hn : vs.length ≤ 1000) (hl : ∀ r ∈ rss, r.length ≤ 17592186044000) (hb : base ≤ w.heap.size) :
    Calls Tryd.prog 25 #[.slice (some ⟨w.heap.size, 0, none⟩) vs.length vs.length] (w.alloc (.cells vs.toArray 25)) fun e w' => e = .returned (.bool true) ∧ BW (Turns vs w.heap.size) base w w' := by
  have hst : St (w.alloc (.cells vs.toArray 25)) base w.heap.size vs (fun i => rss.getD i []) := by
    have h' := h.below ((Below.refl _ _).alloc (Nat.le_refl _) (.cells vs.toArray 25))
    exact ⟨by rw [heap_alloc_new], h'.row, h'.apart⟩
  refine (own_anyW w.heap.size base vs (fun i => rss.getD i []) _ hst hn ?_ hb).mono ?_
  · intro i hi
    have hi' : i < rss.length := by rw [← h.len]; exact hi
    show (rss.getD i []).length ≤ _
    have e : rss.getD i [] = rss[i] := by simp [List.getD, hi']
    rw [e]
    exact hl _ (List.getElem_mem _)
  · rintro e w' ⟨rfl, hbel⟩
    refine ⟨rfl, ((Below.refl _ _).alloc hb _).trans hbel.below, fun g x hn hc => hbel.other g x hn ?_⟩
    rw [Below.heap_alloc w _ g (lt_of_block hc)]; exact hc

end Go.Proofs.YtlengglmnbpkbaaDoor
