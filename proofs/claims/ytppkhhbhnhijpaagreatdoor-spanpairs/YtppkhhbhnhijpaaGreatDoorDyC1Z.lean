/- Package dyadic: compareSizes. -/
import Derived.Test.YtppkhhbhnhijpaaGreatDoorDyCPZ
import Derived.Test.YtppkhhbhnhijpaaGreatDoorDyVZ
import Derived.Test.YtppkhhbhnhijpaaGreatDoorQ5
namespace Go.Proofs.YtppkhhbhnhijpaaGreatDoor
open Go.RowKit
open Lm
attribute [local go_sem ↓] Go.wp_at_zero Go.wp_at_succ

/-- The order by the tops, or that they are the same. -/
theorem tops_cmp {x y p q : Nat} {E1 E2 : Int} {L : Nat} (hx : x ≠ 0) (hy : y ≠ 0) (hp : (p : Int) = E1 + L) (hq : (q : Int) = E2 + L) :
    (cmpZ (E1 + (blen x : Int) - 1) (E2 + (blen y : Int) - 1) ≠ 0 → cmpZ (E1 + (blen x : Int) - 1) (E2 + (blen y : Int) - 1) = cmpN (x * 2 ^ p) (y * 2 ^ q)) ∧ (cmpZ (E1 + (blen x : Int) - 1) (E2 + (blen y : Int) - 1) = 0 → E1 + (blen x : Int) = E2 + (blen y : Int)) := by
  unfold cmpZ
  by_cases h1 : E1 + (blen x : Int) - 1 < E2 + (blen y : Int) - 1
  · rw [if_pos h1, cmpN_lt (top_lt hy (by omega))]
    exact ⟨fun _ => rfl, fun h => by omega⟩
  · rw [if_neg h1]
    by_cases h2 : E2 + (blen y : Int) - 1 < E1 + (blen x : Int) - 1
    · rw [if_pos h2, cmpN_gt (top_lt hx (by omega))]
      exact ⟨fun _ => rfl, fun h => by omega⟩
    · rw [if_neg h2]
      exact ⟨fun h => absurd rfl h, fun _ => by omega⟩

set_option maxRecDepth 20000 in
set_option maxHeartbeats 4000000 in
theorem ycmpSizes_any (b1 : Bool) (a1 : Option Addr) (c1 : Nat) (X : List Nat) (E1 : Int) (b2 : Bool) (a2 : Option Addr) (c2 : Nat) (Y : List Nat) (E2 : Int) (L p q : Nat) (w : World) (h1 : Arg w (.slice a1 X.length c1) X) (h2 : Arg w (.slice a2 Y.length c2) Y) (hx : val X ≠ 0) (hy : val Y ≠ 0) (f1 : X.length ≤ 17592186044416) (f2 : Y.length ≤ 17592186044416) (he1 : -1152921504606846976 ≤ E1) (he2 : E1 ≤ 1152921504606846976) (he3 : -1152921504606846976 ≤ E2) (he4 : E2 ≤ 1152921504606846976) (hL : 4611686018427387904 ≤ L) (hp : (p : Int) = E1 + L) (hq : (q : Int) = E2 + L) :
    Calls Tryz.prog 135 #[.agg #[.bool b1, .slice a1 X.length c1, .int .i64 E1], .agg #[.bool b2, .slice a2 Y.length c2, .int .i64 E2]] w fun e w' => e = .returned (.int .i64 (cmpN (val X * 2 ^ p) (val Y * 2 ^ q))) ∧ Below w.heap.size w w' := by
  obtain ⟨w0, hw0, hb0, k0, k1⟩ := enter2 w (.cells #[.bool b1, .slice a1 X.length c1, .int .i64 E1] 153) (.cells #[.bool b2, .slice a2 Y.length c2, .int .i64 E2] 153)
  have HK0 := hide k0
  have HK1 := hide k1
  have HB := hide hb0
  have HA1 := hide h1
  have HA2 := hide h2
  have htc := tops_cmp hx hy hp hq
  have hlx := blen_lenU h1.limbs
  have hly := blen_lenU h2.limbs
  have hfx := fl_top (val X)
  have hfy := fl_top (val Y)
  have T1 := hide (fun (W : World) (hg : Below w.heap.size w W) => ytop_any b1 a1 c1 X E1 W (h1.below hg) (by omega) (by omega))
  have T2 := hide (fun (W : World) (hg : Below w.heap.size w W) => ytop_any b2 a2 c2 Y E2 W (h2.below hg) (by omega) (by omega))
  have LL1 := hide (fun (W : World) (hg : Below w.heap.size w W) => ylength_any b1 a1 c1 X W (h1.below hg))
  have LL2 := hide (fun (W : World) (hg : Below w.heap.size w W) => ylength_any b2 a2 c2 Y W (h2.below hg))
  have hlb : blen (val X) ≤ 1125899906842624 ∧ blen (val Y) ≤ 1125899906842624 := by omega
  generalize blen (val X) = lx at *
  generalize blen (val Y) = ly at *
  generalize hc0 : cmpZ (E1 + (lx : Int) - 1) (E2 + (ly : Int) - 1) = o0 at *
  have HC0 := hide hc0
  have HTC := hide htc
  have HLB := hide hlb
  have HFX := hide (And.intro hfx hfy)
  have HPQ := hide (And.intro hp (And.intro hq hL))
  clear k0 k1 hb0 h1 h2 htc hlx hly hfx hfy hc0 hlb hp hq
  have gd0 : Below w.heap.size w w0.drew := HB.out.drew
  have g0 : Below w0.drew.heap.size w0.drew w0.drew := Below.refl _ _
  have KS := hide (fun (W : World) (hg : Below w0.drew.heap.size w0.drew W) => show W.cell? ⟨w.heap.size, 0, none⟩ = some (.bool b1) ∧ W.cell? ⟨w.heap.size, 1, none⟩ = some (.slice a1 X.length c1) ∧ W.cell? ⟨w.heap.size, 2, none⟩ = some (.int .i64 E1) ∧ W.cell? ⟨w.heap.size + 1, 0, none⟩ = some (.bool b2) ∧ W.cell? ⟨w.heap.size + 1, 1, none⟩ = some (.slice a2 Y.length c2) ∧ W.cell? ⟨w.heap.size + 1, 2, none⟩ = some (.int .i64 E2) from by
    obtain ⟨y0, y1, y2⟩ := tri8 (block_upW hg (show w0.drew.heap[w.heap.size]? = some (.cells #[.bool b1, .slice a1 X.length c1, .int .i64 E1] 153) from HK0.out))
    obtain ⟨y3, y4, y5⟩ := tri8 (block_upW hg (show w0.drew.heap[w.heap.size + 1]? = some (.cells #[.bool b2, .slice a2 Y.length c2, .int .i64 E2] 153) from HK1.out))
    exact ⟨y0, y1, y2, y3, y4, y5⟩)
  have U1 := T1.out w0.drew gd0
  have U2 := hide (fun (W : World) (hg : Below w0.drew.heap.size w0.drew W) => T2.out W (bl_trans8 gd0 hg))
  obtain ⟨y0, y1, y2, y3, y4, y5⟩ := KS.out _ g0
  generalize E1 + (lx : Int) - 1 = tp1 at *
  generalize E2 + (ly : Int) - 1 = tp2 at *
  go_enter Tryz.func135, Tryz.ntmps135
  go_wp2
  go_region_held3 (fun w' => w'.cell? ⟨w.heap.size, 0, none⟩ = some (.bool b1) ∧ w'.cell? ⟨w.heap.size, 1, none⟩ = some (.slice a1 X.length c1) ∧ w'.cell? ⟨w.heap.size, 2, none⟩ = some (.int .i64 E1) ∧ w'.cell? ⟨w.heap.size + 1, 0, none⟩ = some (.bool b2) ∧ w'.cell? ⟨w.heap.size + 1, 1, none⟩ = some (.slice a2 Y.length c2) ∧ w'.cell? ⟨w.heap.size + 1, 2, none⟩ = some (.int .i64 E2)) (first | with_reducible exact KS.out _ g2 | with_reducible exact KS.out _ g1 | with_reducible exact KS.out _ g0) (first
    | (go_at_call_of 139 a1; refine U1.mono ?_; rintro e' t1 ⟨rfl, g1⟩)
    | (go_at_call_of 139 a2; refine (U2.out t1 g1).mono ?_; rintro e' t2 ⟨rfl, hb2⟩; have g2 := bl_trans8 g1 hb2)
    | (go_at_call 134; refine (cmpInt_any tp1 tp2 t2).mono ?_; rintro e' wn ⟨rfl, hw⟩; rw [hw, HC0.out]; clear hw wn))
  have G2 := bl_trans8 gd0 g2
  have HQ0 := hide (block_upW g2 (show w0.drew.heap[w.heap.size]? = some (.cells #[.bool b1, .slice a1 X.length c1, .int .i64 E1] 153) from HK0.out))
  have HQ1 := hide (block_upW g2 (show w0.drew.heap[w.heap.size + 1]? = some (.cells #[.bool b2, .slice a2 Y.length c2, .int .i64 E2] 153) from HK1.out))
  have HG2 := hide G2
  clear g0 g1 g2 hb2 gd0 KS U1 U2 T1 T2 y0 y1 y2 y3 y4 y5 G2
  have gd0 : Below w.heap.size w t2.drew := HG2.out.drew
  have g0 : Below t2.drew.heap.size t2.drew t2.drew := Below.refl _ _
  have KS := hide (fun (W : World) (hg : Below t2.drew.heap.size t2.drew W) => show W.cell? ⟨w.heap.size, 0, none⟩ = some (.bool b1) ∧ W.cell? ⟨w.heap.size, 1, none⟩ = some (.slice a1 X.length c1) ∧ W.cell? ⟨w.heap.size + 1, 0, none⟩ = some (.bool b2) ∧ W.cell? ⟨w.heap.size + 1, 1, none⟩ = some (.slice a2 Y.length c2) from by
    obtain ⟨y0, y1, y2⟩ := tri8 (block_upW hg (show t2.drew.heap[w.heap.size]? = some (.cells #[.bool b1, .slice a1 X.length c1, .int .i64 E1] 153) from HQ0.out))
    obtain ⟨y3, y4, y5⟩ := tri8 (block_upW hg (show t2.drew.heap[w.heap.size + 1]? = some (.cells #[.bool b2, .slice a2 Y.length c2, .int .i64 E2] 153) from HQ1.out))
    exact ⟨y0, y1, y3, y4⟩)
  have U1 := LL1.out t2.drew gd0
  have U2 := hide (fun (W : World) (hg : Below t2.drew.heap.size t2.drew W) => LL2.out W (bl_trans8 gd0 hg))
  obtain ⟨y0, y1, y3, y4⟩ := KS.out _ g0
  go_wp2
  go_region_held3 (fun w' => w'.cell? ⟨w.heap.size, 0, none⟩ = some (.bool b1) ∧ w'.cell? ⟨w.heap.size, 1, none⟩ = some (.slice a1 X.length c1) ∧ w'.cell? ⟨w.heap.size + 1, 0, none⟩ = some (.bool b2) ∧ w'.cell? ⟨w.heap.size + 1, 1, none⟩ = some (.slice a2 Y.length c2)) (first | with_reducible exact KS.out _ g2 | with_reducible exact KS.out _ g1 | with_reducible exact KS.out _ g0) (first
    | (go_at_call_of 138 a1; refine U1.mono ?_; rintro e' t3 ⟨rfl, g1⟩)
    | (go_at_call_of 138 a2; refine (U2.out t3 g1).mono ?_; rintro e' t4 ⟨rfl, hb2⟩; have g2 := bl_trans8 g1 hb2))
  have HW0 := hide (bl_trans8 gd0 g2)
  have HK0 := hide (block_upW g2 (show t2.drew.heap[w.heap.size]? = some (.cells #[.bool b1, .slice a1 X.length c1, .int .i64 E1] 153) from HQ0.out))
  have HK1 := hide (block_upW g2 (show t2.drew.heap[w.heap.size + 1]? = some (.cells #[.bool b2, .slice a2 Y.length c2, .int .i64 E2] 153) from HQ1.out))
  clear g0 g1 g2 hb2 gd0 KS U1 U2 LL1 LL2 y0 y1 y3 y4 HQ0 HQ1 HG2
  go_wp2
  go_loopw [5, 6, 7] (fun so sb sc wr => ∃ (k : Nat) (o : Int), so = .int .i64 o ∧ sb = .int .i64 ((lx : Int) - 64 * (k : Int)) ∧ sc = .int .i64 ((ly : Int) - 64 * (k : Int)) ∧ k ≤ 35184372088832 ∧ Below t4.heap.size t4 wr ∧ (o = 0 → E1 + (lx : Int) = E2 + (ly : Int) ∧ fl (val X) (64 * (k : Int) - (lx : Int)) = fl (val Y) (64 * (k : Int) - (ly : Int))) ∧ (o ≠ 0 → o = cmpN (val X * 2 ^ p) (val Y * 2 ^ q))) (fun _ sb sc _ => (intOf sb).toNat + (intOf sc).toNat)
  case atStart =>
    refine ⟨0, o0, rfl, by simp, by simp, by omega, Below.refl _ _, fun h => ⟨HTC.out.2 h, ?_⟩, HTC.out.1⟩
    have := HFX.out
    rw [show 64 * ((0 : Nat) : Int) - (lx : Int) = -(lx : Int) by omega, show 64 * ((0 : Nat) : Int) - (ly : Int) = -(ly : Int) by omega, this.1, this.2]
  case round =>
    obtain ⟨k, o, rfl, rfl, rfl, hk, gwr0, hinv1, hinv2⟩ := hrel
    have gwr := hide gwr0
    have HWR := hide (HW0.out.trans (gwr0.mono HW0.out.size))
    obtain ⟨B, hB⟩ : ∃ B, (lx : Int) - 64 * (k : Int) = B := ⟨_, rfl⟩
    obtain ⟨O, hO⟩ : ∃ O, (ly : Int) - 64 * (k : Int) = O := ⟨_, rfl⟩
    rw [hB, hO]
    have HBO := hide (And.intro hB.symm (And.intro hO.symm (And.intro HLB.out (And.intro hk HPQ.out))))
    clear gwr0 hB hO hk
    by_cases ho : o = 0
    · subst ho
      have HINV := hide (And.intro hinv1 hinv2)
      clear hinv1 hinv2
      by_cases iB : 0 < B
      · skip
        have hB2 : IntKind.i64.wrap (B - 64) = B - 64 := by rw [IntKind.wrap_i64]; have := HBO.out; omega
        have hO2 : IntKind.i64.wrap (O - 64) = O - 64 := by rw [IntKind.wrap_i64]; have := HBO.out; omega
        have g0 : Below wr.drew.heap.size wr.drew wr.drew := Below.refl _ _
        have gdr : Below w.heap.size w wr.drew := HWR.out.drew
        have KS := hide (fun (W : World) (hg : Below wr.drew.heap.size wr.drew W) => show W.cell? ⟨w.heap.size, 1, none⟩ = some (.slice a1 X.length c1) ∧ W.cell? ⟨w.heap.size + 1, 1, none⟩ = some (.slice a2 Y.length c2) from by
          have hh := bl_trans8 gwr.out.drew hg
          obtain ⟨_, y1, _⟩ := tri8 (block_upW hh HK0.out)
          obtain ⟨_, y4, _⟩ := tri8 (block_upW hh HK1.out)
          exact ⟨y1, y4⟩)
        have HB1 := ybits_any (.slice a1 X.length c1) X (B - 64) wr.drew (HA1.out.below gdr) (by have := HBO.out; omega) (by have := HBO.out; omega)
        have HB3 := hide (fun (W : World) (hs : Same wr.drew W) => ybits_any (.slice a2 Y.length c2) Y (O - 64) W ((HA2.out.below gdr).below (hs.below _)) (by have := HBO.out; omega) (by have := HBO.out; omega))
        obtain ⟨nn, hnn⟩ : ∃ n : Int, n = 64 * (k : Int) - (lx : Int) := ⟨_, rfl⟩
        obtain ⟨mm, hmm⟩ : ∃ m : Int, m = 64 * (k : Int) - (ly : Int) := ⟨_, rfl⟩
        have e1 : -(B - 64) = nn + 64 := by have := HBO.out; omega
        have e2 : -(O - 64) = mm + 64 := by have := HBO.out; omega
        rw [e1] at HB1
        rw [e2] at HB3
        have hfr : fl (val X) nn = fl (val Y) mm := by rw [hnn, hmm]; exact (HINV.out.1 rfl).2
        have hst := front_step hfr
        have hfin : cmpN (fl (val X) (nn + 64)) (fl (val Y) (mm + 64)) ≠ 0 → cmpN (fl (val X) (nn + 64)) (fl (val Y) (mm + 64)) = cmpN (val X * 2 ^ p) (val Y * 2 ^ q) := by
          intro h
          have hne : fl (val X) (nn + 64) ≠ fl (val Y) (mm + 64) := fun h' => h (by rw [h', cmpN_self])
          refine (front_cmp (d := (E1 + L - nn - 64).toNat) ?_ ?_ hne).symm
          · have := HBO.out; omega
          · have h9 := (HINV.out.1 rfl).1
            have := HBO.out; omega
        have hzero : cmpN (fl (val X) (nn + 64)) (fl (val Y) (mm + 64)) = 0 → fl (val X) (nn + 64) = fl (val Y) (mm + 64) := fun h => (cmpN_iff _ _).2.2.1 h
        have z1 : fl (val X) (nn + 64) % 18446744073709551616 < 18446744073709551616 := Nat.mod_lt _ (by omega)
        rw [hst] at hfin hzero
        have HF := hide (And.intro hfin hzero)
        have HNM := hide (And.intro hnn hmm)
        have HTOP := hide (HINV.out.1 rfl).1
        clear hst hfin hzero hfr hnn hmm e1 e2 z1 HINV
        generalize fl (val X) (nn + 64) % 18446744073709551616 = u1 at *
        generalize fl (val Y) (mm + 64) % 18446744073709551616 = u2 at *
        obtain ⟨q1, q4⟩ := KS.out _ g0
        have HGW := hide gdr
        clear gdr
        generalize hBB : B - 64 = B2 at *
        have hBB2 : B - 64 = B2 := hBB
        clear hBB
        generalize hOO : O - 64 = O2 at *
        have hOO2 : O - 64 = O2 := hOO
        clear hOO
        go_wp2
        go_region_held3 (fun w' => w'.cell? ⟨w.heap.size, 1, none⟩ = some (.slice a1 X.length c1) ∧ w'.cell? ⟨w.heap.size + 1, 1, none⟩ = some (.slice a2 Y.length c2)) (first | with_reducible exact KS.out _ g2 | with_reducible exact KS.out _ g1 | with_reducible exact KS.out _ g0) (first
          | (go_at_call_of 153 a1; refine HB1.mono ?_; rintro e' t1 ⟨rfl, s1⟩; have g1 := s1.below wr.drew.heap.size)
          | (go_at_call_of 153 a2; refine (HB3.out t1 s1).mono ?_; rintro e' t2 ⟨rfl, s2⟩; have g2 := (s1.trans s2).below wr.drew.heap.size)
          | (go_at_call 152; refine (cmpU u1 u2 t2).mono ?_; rintro e' wn ⟨rfl, hw⟩; rw [hw]; clear hw wn))
        have HG2 := hide (HGW.out.trans (g2.mono HGW.out.size))
        have HG3 := hide (gwr.out.trans ((show Below wr.heap.size wr t2 from (Below.refl _ _).drew.trans g2).mono gwr.out.size))
        have hcr := cmpN_range u1 u2
        have HCR := hide hcr
        clear hcr g0 g1 g2 s1 s2 KS HB1 HB3 HGW
        generalize cmpN u1 u2 = o1 at *
        go_wp2
        go_roundw
        case rel =>
          have h10 := HBO.out
          refine ⟨k + 1, o1, rfl, ?_, ?_, ?_, HG3.out, fun h => ⟨HTOP.out, ?_⟩, fun h => HF.out.1 h⟩
          · exact congrArg (Value.int IntKind.i64) (by omega)
          · exact congrArg (Value.int IntKind.i64) (by omega)
          · omega
          · have h11 := HF.out.2 h
            have h12 := HNM.out
            rw [show 64 * ((k + 1 : Nat) : Int) - (lx : Int) = nn + 64 by omega, show 64 * ((k + 1 : Nat) : Int) - (ly : Int) = mm + 64 by omega]
            exact h11
        case measure =>
          simp only [intOf]
          omega
      · by_cases iO : 0 < O
        · skip
          have hB2 : IntKind.i64.wrap (B - 64) = B - 64 := by rw [IntKind.wrap_i64]; have := HBO.out; omega
          have hO2 : IntKind.i64.wrap (O - 64) = O - 64 := by rw [IntKind.wrap_i64]; have := HBO.out; omega
          have g0 : Below wr.drew.heap.size wr.drew wr.drew := Below.refl _ _
          have gdr : Below w.heap.size w wr.drew := HWR.out.drew
          have KS := hide (fun (W : World) (hg : Below wr.drew.heap.size wr.drew W) => show W.cell? ⟨w.heap.size, 1, none⟩ = some (.slice a1 X.length c1) ∧ W.cell? ⟨w.heap.size + 1, 1, none⟩ = some (.slice a2 Y.length c2) from by
            have hh := bl_trans8 gwr.out.drew hg
            obtain ⟨_, y1, _⟩ := tri8 (block_upW hh HK0.out)
            obtain ⟨_, y4, _⟩ := tri8 (block_upW hh HK1.out)
            exact ⟨y1, y4⟩)
          have HB1 := ybits_any (.slice a1 X.length c1) X (B - 64) wr.drew (HA1.out.below gdr) (by have := HBO.out; omega) (by have := HBO.out; omega)
          have HB3 := hide (fun (W : World) (hs : Same wr.drew W) => ybits_any (.slice a2 Y.length c2) Y (O - 64) W ((HA2.out.below gdr).below (hs.below _)) (by have := HBO.out; omega) (by have := HBO.out; omega))
          obtain ⟨nn, hnn⟩ : ∃ n : Int, n = 64 * (k : Int) - (lx : Int) := ⟨_, rfl⟩
          obtain ⟨mm, hmm⟩ : ∃ m : Int, m = 64 * (k : Int) - (ly : Int) := ⟨_, rfl⟩
          have e1 : -(B - 64) = nn + 64 := by have := HBO.out; omega
          have e2 : -(O - 64) = mm + 64 := by have := HBO.out; omega
          rw [e1] at HB1
          rw [e2] at HB3
          have hfr : fl (val X) nn = fl (val Y) mm := by rw [hnn, hmm]; exact (HINV.out.1 rfl).2
          have hst := front_step hfr
          have hfin : cmpN (fl (val X) (nn + 64)) (fl (val Y) (mm + 64)) ≠ 0 → cmpN (fl (val X) (nn + 64)) (fl (val Y) (mm + 64)) = cmpN (val X * 2 ^ p) (val Y * 2 ^ q) := by
            intro h
            have hne : fl (val X) (nn + 64) ≠ fl (val Y) (mm + 64) := fun h' => h (by rw [h', cmpN_self])
            refine (front_cmp (d := (E1 + L - nn - 64).toNat) ?_ ?_ hne).symm
            · have := HBO.out; omega
            · have h9 := (HINV.out.1 rfl).1
              have := HBO.out; omega
          have hzero : cmpN (fl (val X) (nn + 64)) (fl (val Y) (mm + 64)) = 0 → fl (val X) (nn + 64) = fl (val Y) (mm + 64) := fun h => (cmpN_iff _ _).2.2.1 h
          have z1 : fl (val X) (nn + 64) % 18446744073709551616 < 18446744073709551616 := Nat.mod_lt _ (by omega)
          rw [hst] at hfin hzero
          have HF := hide (And.intro hfin hzero)
          have HNM := hide (And.intro hnn hmm)
          have HTOP := hide (HINV.out.1 rfl).1
          clear hst hfin hzero hfr hnn hmm e1 e2 z1 HINV
          generalize fl (val X) (nn + 64) % 18446744073709551616 = u1 at *
          generalize fl (val Y) (mm + 64) % 18446744073709551616 = u2 at *
          obtain ⟨q1, q4⟩ := KS.out _ g0
          have HGW := hide gdr
          clear gdr
          generalize hBB : B - 64 = B2 at *
          have hBB2 : B - 64 = B2 := hBB
          clear hBB
          generalize hOO : O - 64 = O2 at *
          have hOO2 : O - 64 = O2 := hOO
          clear hOO
          go_wp2
          go_region_held3 (fun w' => w'.cell? ⟨w.heap.size, 1, none⟩ = some (.slice a1 X.length c1) ∧ w'.cell? ⟨w.heap.size + 1, 1, none⟩ = some (.slice a2 Y.length c2)) (first | with_reducible exact KS.out _ g2 | with_reducible exact KS.out _ g1 | with_reducible exact KS.out _ g0) (first
            | (go_at_call_of 153 a1; refine HB1.mono ?_; rintro e' t1 ⟨rfl, s1⟩; have g1 := s1.below wr.drew.heap.size)
            | (go_at_call_of 153 a2; refine (HB3.out t1 s1).mono ?_; rintro e' t2 ⟨rfl, s2⟩; have g2 := (s1.trans s2).below wr.drew.heap.size)
            | (go_at_call 152; refine (cmpU u1 u2 t2).mono ?_; rintro e' wn ⟨rfl, hw⟩; rw [hw]; clear hw wn))
          have HG2 := hide (HGW.out.trans (g2.mono HGW.out.size))
          have HG3 := hide (gwr.out.trans ((show Below wr.heap.size wr t2 from (Below.refl _ _).drew.trans g2).mono gwr.out.size))
          have hcr := cmpN_range u1 u2
          have HCR := hide hcr
          clear hcr g0 g1 g2 s1 s2 KS HB1 HB3 HGW
          generalize cmpN u1 u2 = o1 at *
          go_wp2
          go_roundw
          case rel =>
            have h10 := HBO.out
            refine ⟨k + 1, o1, rfl, ?_, ?_, ?_, HG3.out, fun h => ⟨HTOP.out, ?_⟩, fun h => HF.out.1 h⟩
            · exact congrArg (Value.int IntKind.i64) (by omega)
            · exact congrArg (Value.int IntKind.i64) (by omega)
            · omega
            · have h11 := HF.out.2 h
              have h12 := HNM.out
              rw [show 64 * ((k + 1 : Nat) : Int) - (lx : Int) = nn + 64 by omega, show 64 * ((k + 1 : Nat) : Int) - (ly : Int) = mm + 64 by omega]
              exact h11
          case measure =>
            simp only [intOf]
            omega
        · have hend : cmpN (val X * 2 ^ p) (val Y * 2 ^ q) = 0 := by
            obtain ⟨h8, h9⟩ := HINV.out.1 rfl
            have h10 := HBO.out
            rw [front_eq (d := (E1 + L - (64 * (k : Int) - (lx : Int))).toNat) (p := p) (q := q) (n := 64 * (k : Int) - (lx : Int)) (m := 64 * (k : Int) - (ly : Int)) (by omega) (by omega) (by omega) (by omega) h9]
            exact cmpN_self _
          have HEND := hide hend
          have HFIN := hide HWR.out
          clear hend HINV HBO
          go_wp2
          go_ret
          rw [HEND.out]
          exact ⟨rfl, HFIN.out⟩
    · have hoe : ((o : Int) == 0) = false := by rw [beq_eq_false_iff_ne]; exact ho
      have HEND := hide (hinv2 ho)
      have HFIN := hide HWR.out
      clear hinv1 hinv2 ho HBO
      go_wp2
      go_ret
      rw [← HEND.out]
      exact ⟨rfl, HFIN.out⟩

end Go.Proofs.YtppkhhbhnhijpaaGreatDoor
