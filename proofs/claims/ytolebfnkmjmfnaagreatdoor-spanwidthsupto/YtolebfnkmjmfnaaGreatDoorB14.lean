/- The document's sums, middles and roundings of dyadics at one scale; what it says of several numbers. -/
import Derived.Test.YtolebfnkmjmfnaaGreatDoorB12
import Derived.Test.YtolebfnkmjmfnaaGreatDoorB13
import Derived.Test.YtolebfnkmjmfnaaGreatDoorB09
import Derived.Test.YtolebfnkmjmfnaaGreatDoorB11
namespace Go.Proofs.YtolebfnkmjmfnaaGreatDoor
open Go.RowKit
open Lm
attribute [local go_sem ↓] Go.wp_at_zero Go.wp_at_succ

/-- Half of a number, and what Scale makes of it. -/
theorem half_exp {S m : Int} : (if omz S = 0 then oe S m else oe S m + -1) = oe S (m - 1) := by
  unfold oe
  by_cases h : S = 0
  · subst h; simp [omz_zero]
  · rw [if_neg (omz_ne h), if_neg h, if_neg h]; omega

theorem blen_sum9 {M0 M1 : Int} {a b n g : Nat} (h0 : blen M0.natAbs ≤ n) (h1 : blen M1.natAbs ≤ n) (ha : a ≤ g) (hb : b ≤ g) : blen (M0 * 2 ^ a + M1 * 2 ^ b).natAbs ≤ n + g + 1 := by
  refine (blen_le_iff _ _).2 ?_
  have k0 := (blen_le_iff _ _).1 h0
  have k1 := (blen_le_iff _ _).1 h1
  have c0 : M0.natAbs * 2 ^ a < 2 ^ (n + g) := by
    rw [Nat.pow_add]
    exact Nat.lt_of_lt_of_le (Nat.mul_lt_mul_of_pos_right k0 (Nat.two_pow_pos a)) (Nat.mul_le_mul_left _ (Nat.pow_le_pow_right (by omega) ha))
  have c1 : M1.natAbs * 2 ^ b < 2 ^ (n + g) := by
    rw [Nat.pow_add]
    exact Nat.lt_of_lt_of_le (Nat.mul_lt_mul_of_pos_right k1 (Nat.two_pow_pos b)) (Nat.mul_le_mul_left _ (Nat.pow_le_pow_right (by omega) hb))
  have e := Int.natAbs_add_le (M0 * 2 ^ a) (M1 * 2 ^ b)
  rw [abs_mul9, abs_mul9] at e
  rw [Nat.pow_succ]
  omega

theorem oe_sm_range {M0 E0 M1 E1 : Int} {n : Nat} (h0 : blen M0.natAbs ≤ n) (h1 : blen M1.natAbs ≤ n) (hn : n ≤ 1000000000000) (e01 : -1152921504606846976 ≤ E0) (e02 : E0 ≤ 1152921504606846976) (e11 : -1152921504606846976 ≤ E1) (e12 : E1 ≤ 1152921504606846976) : -1152921504606846976 ≤ oe (sm M0 E0 M1 E1) (min E0 E1) ∧ oe (sm M0 E0 M1 E1) (min E0 E1) ≤ 4611686018427387904 := by
  have hb := blen_sum9 (a := (E0 - min E0 E1).toNat) (b := (E1 - min E0 E1).toNat) (g := 2305843009213693952) h0 h1 (by omega) (by omega)
  have ht := tl_le (sm M0 E0 M1 E1).natAbs
  have e : (sm M0 E0 M1 E1).natAbs = (M0 * 2 ^ (E0 - min E0 E1).toNat + M1 * 2 ^ (E1 - min E0 E1).toNat).natAbs := rfl
  rw [← e] at hb
  unfold oe
  split <;> omega

/-- A number of at most MaxBits bits. -/
def Sml (L : Nat) (V : Int) : Prop := ∃ M E, Rp L M E V ∧ Nr8 M E ∧ blen M.natAbs ≤ 67108864

theorem Sml.blen {L : Nat} {M E V : Int} (h : Sml L V) (hr : Rp L M E V) (hn : Nr8 M E) : blen M.natAbs ≤ 67108864 := by
  obtain ⟨M', E', h1, h2, h3⟩ := h
  obtain ⟨rfl, rfl⟩ := Rp.one hr h1 hn h2
  exact h3

theorem Nr8.neg10 {M E : Int} (h : Nr8 M E) : Nr8 (-M) E := by
  rcases h with ⟨h1, h2⟩ | h
  · exact .inl ⟨by omega, h2⟩
  · exact .inr (by omega)

theorem Sml.neg {L : Nat} {V : Int} (h : Sml L V) : Sml L (-V) := by
  obtain ⟨M, E, h1, h2, h3⟩ := h
  exact ⟨-M, E, h1.neg, h2.neg10, by rw [Int.natAbs_neg]; exact h3⟩

theorem vof_small {w : World} {b : Bool} {v : Value} {X : List Nat} {ex : Int} {L : Nat} (hA : Arg w v X) (hf : X.length ≤ 1048576) (hE : 0 ≤ ex + L) : Sml L (vof b X ex L) := by
  have hbz : blen (zz b (val X)).natAbs ≤ 64 * X.length := by rw [zz_abs]; exact blen_lenU hA.limbs
  have h5 := blen_mono (od_le (zz b (val X)).natAbs)
  exact ⟨_, _, (Rp.make L (zz b (val X)) ex hE).norm, nr8_of _ _, by rw [omz_abs]; omega⟩

/-- The document's number with its code. -/
def RAnsV (w : World) (e : Ending) (w' : World) (c : Int) (L : Nat) (V : Int) : Prop :=
  (∃ b a n k E, e = .returned (.tuple #[.agg #[.bool b, .slice a n k, .int .i64 E], .int .i64 c]) ∧ (c = 0 → V8 w' b a n k E L V)) ∧ Below w.heap.size w w'

theorem rnegV (b : Bool) (a : Option Addr) (n c : Nat) (E : Int) (L : Nat) (V : Int) (w : World) (h : V8 w b a n c E L V) :
    Calls Tryz.prog 14 #[.agg #[.bool b, .slice a n c, .int .i64 E]] w fun e w' => (∃ b' a' n' c' E', e = .returned (.agg #[.bool b', .slice a' n' c', .int .i64 E']) ∧ V8 w' b' a' n' c' E' L (-V)) ∧ Below w.heap.size w w' := by
  obtain ⟨M, d, r, m, f, x, y⟩ := h
  refine (rdNeg_any b a n c M E w d).mono fun e w' h => ?_
  obtain ⟨⟨b', a', n', c', he, hd⟩, hb⟩ := h
  exact ⟨⟨b', a', n', c', E, he, -M, hd, r.neg, m.neg10, by rw [Int.natAbs_neg]; exact f, x, y⟩, hb⟩

theorem code3 {M E : Int} (h : 67108864 < blen M.natAbs) : dcode M E = 3 := by unfold dcode; rw [if_pos h]

theorem code80 {M E : Int} (h : blen M.natAbs ≤ 67108864) (hE : fitE E = false) : dcode M E = 80 := by
  unfold dcode; rw [if_neg (by omega), hE]; rfl

theorem code0 {M E : Int} (h : blen M.natAbs ≤ 67108864) (hE : fitE E = true) : dcode M E = 0 := by
  unfold dcode; rw [if_neg (by omega), if_pos hE]

theorem rsumV (b1 : Bool) (a1 : Option Addr) (n1 c1 : Nat) (E1 : Int) (b2 : Bool) (a2 : Option Addr) (n2 c2 : Nat) (E2 : Int) (L : Nat) (V1 V2 c : Int) (w : World) (h1 : V8 w b1 a1 n1 c1 E1 L V1) (h2 : V8 w b2 a2 n2 c2 E2 L V2) (s1 : Sml L V1) (s2 : Sml L V2) (hc : Code L (V1 + V2) c) :
    Calls Tryz.prog 13 #[.agg #[.bool b1, .slice a1 n1 c1, .int .i64 E1], .agg #[.bool b2, .slice a2 n2 c2, .int .i64 E2]] w fun e w' => RAnsV w e w' c L (V1 + V2) := by
  obtain ⟨M1, d1, r1, m1, _, x1, y1⟩ := h1
  obtain ⟨M2, d2, r2, m2, _, x2, y2⟩ := h2
  have f1 := s1.blen r1 m1
  have f2 := s2.blen r2 m2
  have hR := (r1.add r2).norm
  have hN := nr8_of (sm M1 E1 M2 E2) (min E1 E2)
  refine (rdSum_any b1 a1 n1 c1 E1 b2 a2 n2 c2 E2 _ _ w (fun W hg => rdAdd_any b1 a1 n1 c1 M1 E1 b2 a2 n2 c2 M2 E2 W (d1.below hg) (d2.below hg) m1 m2 (by omega) (by omega) x1 y1 x2 y2)).mono fun e w' h => ?_
  obtain ⟨⟨b, a, n, k, E', f, he, h⟩, hb⟩ := h
  have hcc := hc.one ⟨_, _, hR, hN, rfl⟩
  rcases h with ⟨rfl, hd, rfl, g1, g2⟩ | ⟨rfl, g1⟩ | ⟨rfl, g1, g2⟩
  · rw [code0 g1 g2] at hcc
    subst hcc
    have hr := (fitE_iff _).1 g2
    exact ⟨⟨b, a, n, k, _, he, fun _ => ⟨_, hd, hR, hN, by omega, by omega, by omega⟩⟩, hb⟩
  · rw [code3 g1] at hcc
    subst hcc
    exact ⟨⟨b, a, n, k, E', he, fun h => absurd h (by decide)⟩, hb⟩
  · rw [code80 g1 g2] at hcc
    subst hcc
    exact ⟨⟨b, a, n, k, E', he, fun h => absurd h (by decide)⟩, hb⟩

/-- Told of a number that was reckoned. -/
theorem rtoldV (b : Bool) (a : Option Addr) (n c : Nat) (M E : Int) (L : Nat) (V d : Int) (w : World) (h : Dn w b (.slice a n c) M) (hr : Rp L M E V) (hn : Nr8 M E) (hc : Code L V d) :
    Calls Tryz.prog 32 #[.agg #[.bool b, .slice a n c, .int .i64 E]] w fun e w' => RAnsV w e w' d L V := by
  refine (rtold_any b a n c M E w h).mono fun e w' h => ?_
  obtain ⟨⟨b', a', n', c', E', f, he, h⟩, hb⟩ := h
  have hcc := hc.one ⟨_, _, hr, hn, rfl⟩
  rcases h with ⟨rfl, rfl, g0, rfl, g1, g2, hd⟩ | ⟨rfl, g1⟩ | ⟨rfl, g1, g2⟩
  · rw [code0 g1 g2] at hcc
    subst hcc
    cases g0
    have hq := (fitE_iff _).1 g2
    exact ⟨⟨_, _, _, _, _, he, fun _ => ⟨_, hd, hr, hn, by omega, by omega, by omega⟩⟩, hb⟩
  · rw [code3 g1] at hcc
    subst hcc
    exact ⟨⟨_, _, _, _, _, he, fun h => absurd h (by decide)⟩, hb⟩
  · rw [code80 g1 g2] at hcc
    subst hcc
    exact ⟨⟨_, _, _, _, _, he, fun h => absurd h (by decide)⟩, hb⟩

theorem V8.told {w : World} {b : Bool} {a : Option Addr} {n c : Nat} {E : Int} {L : Nat} {V d : Int} (h : V8 w b a n c E L V) (hc : Code L V d) (W : World) (hg : Below w.heap.size w W) :
    Calls Tryz.prog 32 #[.agg #[.bool b, .slice a n c, .int .i64 E]] W fun e w' => RAnsV W e w' d L V := by
  obtain ⟨M, h1, h2, h3, _⟩ := h
  exact rtoldV b a n c M E L V d W (h1.below hg) h2 h3 hc

theorem rroundV (b : Bool) (a : Option Addr) (n c : Nat) (E pos : Int) (L : Nat) (V : Int) (w : World) (h : V8 w b a n c E L V) (hs : Sml L V) (hK : fitE pos = true) (hL : 4611686018427387904 ≤ L) :
    Calls Tryz.prog 17 #[.agg #[.bool b, .slice a n c, .int .i64 E], .int .i64 pos, .int .i64 0] w fun e w' => (∃ b' a' n' c' E', e = .returned (.agg #[.bool b', .slice a' n' c', .int .i64 E']) ∧ V8 w' b' a' n' c' E' L (rv 0 V (2 ^ (pos + L).toNat))) ∧ Below w.heap.size w w' := by
  obtain ⟨M, d, r, m, _, x, y⟩ := h
  have f := hs.blen r m
  have hp := (fitE_iff pos).1 hK
  have hR := (rnd_rv (pos := pos) (m := 0) r m (by omega) (.inl rfl)).norm
  have hsz := rnd_small8 (M := M) (E := E) (pos := pos)
  have hsz2 := rnd_small (M := M) (E := E) (pos := pos)
  have hO := oe_range (rndM M E pos 0) (rndE M E pos) (by omega)
  have hEE : rndE M E pos = E ∨ rndE M E pos = pos := by
    unfold rndE
    split
    · exact .inl rfl
    · exact .inr rfl
  have htl := tl_le (rndM M E pos 0).natAbs
  have hob : -1152921504606846976 ≤ oe (rndM M E pos 0) (rndE M E pos) ∧ oe (rndM M E pos 0) (rndE M E pos) ≤ 1152921504606846976 := by
    by_cases hc : M = 0 ∨ pos ≤ E
    · have e1 : rndM M E pos 0 = M := by unfold rndM; rw [if_pos hc]
      have e2 : rndE M E pos = E := by unfold rndE; rw [if_pos hc]
      rw [e1, e2, m.stay.2]
      exact ⟨x, y⟩
    · have e2 : rndE M E pos = pos := by unfold rndE; rw [if_neg hc]
      rw [e2]
      unfold oe
      split <;> omega
  refine (rdRound_any b a n c M E pos 0 w d m (by omega) x y (by omega) (by omega) (.inl rfl)).mono fun e w' h => ?_
  obtain ⟨⟨b', a', n', c', he, hd⟩, hb⟩ := h
  exact ⟨⟨b', a', n', c', _, he, _, hd, hR, nr8_of _ _, by omega, hob.1, hob.2⟩, hb⟩

set_option maxRecDepth 20000 in
set_option maxHeartbeats 1000000 in
/-- The laws' worst of one fault and a position. -/
theorem lworst1 (gs : Nat) (f pos : Int) (w : World) (hg : w.heap[gs]? = some (.cells #[.int .i64 f] 3)) :
    Calls Tryz.prog 9 #[.int .i64 pos, .slice (some ⟨gs, 0, none⟩) 1 1] w fun e w' => e = .returned (.int .i64 (fltAt f pos)) ∧ w' = w := by
  have c0 : w.cell? ⟨gs, 0, none⟩ = some (.int .i64 f) := by simp [World.cell?, hg]
  have C := rfits_any pos w
  clear hg
  by_cases h1 : f = 0
  · subst h1
    cases hp : fitE pos
    · rw [hp] at C
      rw [show fltAt 0 pos = 1 by unfold fltAt; rw [if_pos rfl, hp]; rfl]
      clear hp
      go_enter Tryz.func9, Tryz.ntmps9
      go_wp2
      refine wp_loop_rounds 2 ?_
      rw [rounds_succ]
      go_wp2
      rw [rounds_succ]
      go_wp2_with fail
      refine C.mono ?_
      rintro e wn ⟨rfl, hw⟩; rw [hw]; clear hw wn C
      go_wp2
      go_ret
      exact ⟨rfl, rfl⟩
    · rw [hp] at C
      rw [show fltAt 0 pos = 0 by unfold fltAt; rw [if_pos rfl, if_pos hp]]
      clear hp
      go_enter Tryz.func9, Tryz.ntmps9
      go_wp2
      refine wp_loop_rounds 2 ?_
      rw [rounds_succ]
      go_wp2
      rw [rounds_succ]
      go_wp2_with fail
      refine C.mono ?_
      rintro e wn ⟨rfl, hw⟩; rw [hw]; clear hw wn C
      go_wp2
      go_ret
      exact ⟨rfl, rfl⟩
  · rw [show fltAt f pos = f by unfold fltAt; rw [if_neg h1]]
    have i1 : (f != 0) = true := by simpa using h1
    clear h1 C
    go_enter Tryz.func9, Tryz.ntmps9
    go_wp2
    refine wp_loop_rounds 2 ?_
    rw [rounds_succ]
    go_wp2
    go_ret
    exact ⟨rfl, rfl⟩

theorem V8.tri8 {w : World} {b0 : Bool} {a0 : Option Addr} {n0 c0 : Nat} {E0 : Int} {L : Nat} {V : Int} {g : Nat} {p : Bool} {a : Option Addr} {n c : Nat} {e : Int} {t : TypeId} (h : V8 w b0 a0 n0 c0 E0 L V) (hl : w.heap[g]? = some (.cells #[.bool p, .slice a n c, .int .i64 e] t)) (b1 : Bool) (a1 : Option Addr) (n1 c1 : Nat) (u2 : Value) :
    V8 (((w.setCell ⟨g, 0, none⟩ (.bool b1)).setCell ⟨g, 1, none⟩ (.slice a1 n1 c1)).setCell ⟨g, 2, none⟩ u2) b0 a0 n0 c0 E0 L V := by
  obtain ⟨M, h1, h2⟩ := h
  exact ⟨M, h1.tri8 hl b1 a1 n1 c1 u2, h2⟩

set_option maxRecDepth 20000 in
set_option maxHeartbeats 2000000 in
theorem rmid_walk (b1 : Bool) (a1 : Option Addr) (n1 k1 : Nat) (E1 : Int) (b2 : Bool) (a2 : Option Addr) (n2 k2 : Nat) (E2 : Int) (M E : Int) (L : Nat) (W c : Int) (w : World) (hadd : ∀ W, Below w.heap.size w W → Calls Tryz.prog 39 #[.agg #[.bool b1, .slice a1 n1 k1, .int .i64 E1], .agg #[.bool b2, .slice a2 n2 k2, .int .i64 E2]] W (AddR W M E)) (hr : Rp L M (if M = 0 then E else E + -1) W) (hn : Nr8 M (if M = 0 then E else E + -1)) (hc : Code L W c) (hw : M ≠ 0 → -9223372036854775808 ≤ E + -1 ∧ E + -1 ≤ 9223372036854775807) :
    Calls Tryz.prog 15 #[.agg #[.bool b1, .slice a1 n1 k1, .int .i64 E1, .bool b2, .slice a2 n2 k2, .int .i64 E2]] w fun e w' => RAnsV w e w' c L W := by
  obtain ⟨w0, hw0, hb0, q0, q9⟩ := enter2 w (.cells #[.bool b1, .slice a1 n1 k1, .int .i64 E1, .bool b2, .slice a2 n2 k2, .int .i64 E2] 43) (.cells #[.bool false, .slice none 0 0, .int .i64 0] 41)
  have C := hadd w0 hb0
  have HU := hide hb0
  have HR0 := hide q9
  have H3 : Hid (67108864 < blen M.natAbs → c = 3) := hide fun h => by rw [hc.one ⟨_, _, hr, hn, rfl⟩, code3 h]
  have CS := hide (fun (X : World) (b : Bool) (a : Option Addr) (n k : Nat) (hd : Dn X b (.slice a n k) M) => rdScale_any b a n k M E (-1) X hd hw)
  have CT := hide (fun (X : World) (b : Bool) (a : Option Addr) (n k : Nat) (hd : Dn X b (.slice a n k) M) => rtoldV b a n k M _ L W c X hd hr hn hc)
  obtain ⟨y0, y1, y2, y3, y4, y5⟩ := hexa q0
  generalize hE' : (if M = 0 then E else E + -1) = E' at *
  have HE' := hide hE'
  clear q0 q9 hb0 hadd hr hn hc hw hE'
  go_enter Tryz.func15, Tryz.ntmps15
  go_wp2_with fail
  refine C.mono ?_
  rintro e t1 ⟨⟨b6, a6, n6, c6, e6, ok, rfl, hd⟩, g1⟩
  obtain ⟨w2, hw2, hb2, q2⟩ := enter1 t1 (.cells #[.bool b6, .slice a6 n6 c6, .int .i64 e6] 41)
  have g2 := bl_trans8 g1 hb2
  rcases hd with ⟨rfl, hd, rfl⟩ | ⟨rfl, hd, _⟩
  · have HG2 := hide (bl_trans8 HU.out g2)
    have HR2 := hide (block_upW g2 HR0.out)
    have HDD := hide (hd.below hb2)
    obtain ⟨x0, x1, x2⟩ := tri8 q2
    have CC := CS.out w2 b6 a6 n6 c6 HDD.out
    clear g1 g2 hb2 q2 hd C y0 y1 y2 y3 y4 y5 hw0
    go_wp2_with fail
    refine CC.mono ?_
    rintro e t3 ⟨⟨b7, a7, n7, c7, rfl, hd7⟩, g3⟩
    have C2 := CT.out t3 b7 a7 n7 c7 hd7
    have HG3 := hide (bl_trans8 HG2.out g3)
    have HR3 := hide (block_upW g3 HR2.out)
    clear CC g3 hd7 x0 x1 x2 hw2
    go_wp2_with fail
    refine C2.mono ?_
    rintro e t4 ⟨⟨b8, a8, n8, c8, e8, rfl, hv⟩, g4⟩
    have HC1 := hide (block_upW g4 HR3.out)
    have HG := hide (bl_trans8 HG3.out g4)
    have HV := hide hv
    have hf1 := tri8f HC1.out
    obtain ⟨m0, m1, m2⟩ := tri8 HC1.out
    clear g4 hv C2
    go_wp2
    have T3 := tri8_all HC1.out (.bool b8) (.slice a8 n8 c8) (.int .i64 e8)
    have T4 := below_tri8 HG.out (show w.heap.size ≤ w.heap.size + 1 by omega) (.bool b8) (.slice a8 n8 c8) (.int .i64 e8)
    have T5 := fun (h : c = 0) => (HV.out h).tri8 HC1.out b8 a8 n8 c8 (.int .i64 e8)
    obtain ⟨p0, p1, p2⟩ := tri8 T3
    have HE := hide (And.intro T5 T4)
    clear T3 T4 T5
    generalize ((t4.setCell ⟨w.heap.size + 1, 0, none⟩ (.bool b8)).setCell ⟨w.heap.size + 1, 1, none⟩ (.slice a8 n8 c8)).setCell ⟨w.heap.size + 1, 2, none⟩ (.int .i64 e8) = w9 at *
    refine bodyPost_ret (v := .tuple #[.agg #[.bool b8, .slice a8 n8 c8, .int .i64 e8], .int .i64 c]) (by simp [results, Tryz.results15, go_sem, p0, p1, p2]) rfl ?_
    exact ⟨⟨_, _, _, _, _, rfl, HE.out.1⟩, HE.out.2⟩
  · have h3 := H3.out hd
    subst h3
    have HC1 := hide (block_upW g2 HR0.out)
    have HG := hide (bl_trans8 HU.out g2)
    obtain ⟨x0, x1, x2⟩ := tri8 q2
    have hf1 := tri8f HC1.out
    obtain ⟨m0, m1, m2⟩ := tri8 HC1.out
    clear g1 g2 hb2 q2 hd C y0 y1 y2 y3 y4 y5 hw0 CS CT H3
    go_wp2
    have T3 := tri8_all HC1.out (.bool false) (.slice none 0 0) (.int .i64 0)
    have T4 := below_tri8 HG.out (show w.heap.size ≤ w.heap.size + 1 by omega) (.bool false) (.slice none 0 0) (.int .i64 0)
    obtain ⟨p0, p1, p2⟩ := tri8 T3
    have HE := hide T4
    clear T3 T4
    generalize ((w2.setCell ⟨w.heap.size + 1, 0, none⟩ (.bool false)).setCell ⟨w.heap.size + 1, 1, none⟩ (.slice none 0 0)).setCell ⟨w.heap.size + 1, 2, none⟩ (.int .i64 0) = w9 at *
    refine bodyPost_ret (v := .tuple #[.agg #[.bool false, .slice none 0 0, .int .i64 0], .int .i64 3]) (by simp [results, Tryz.results15, go_sem, p0, p1, p2]) rfl ?_
    exact ⟨⟨_, _, _, _, _, rfl, fun h => absurd h (by decide)⟩, HE.out⟩

theorem rmidV (b1 : Bool) (a1 : Option Addr) (n1 k1 : Nat) (E1 : Int) (b2 : Bool) (a2 : Option Addr) (n2 k2 : Nat) (E2 : Int) (L : Nat) (V1 V2 W c : Int) (w : World) (h1 : V8 w b1 a1 n1 k1 E1 L V1) (h2 : V8 w b2 a2 n2 k2 E2 L V2) (s1 : Sml L V1) (s2 : Sml L V2) (hW : V1 + V2 = 2 * W) (hc : Code L W c) (hL : 4611686018427387904 ≤ L) :
    Calls Tryz.prog 15 #[.agg #[.bool b1, .slice a1 n1 k1, .int .i64 E1, .bool b2, .slice a2 n2 k2, .int .i64 E2]] w fun e w' => RAnsV w e w' c L W := by
  obtain ⟨M1, d1, r1, m1, _, x1, y1⟩ := h1
  obtain ⟨M2, d2, r2, m2, _, x2, y2⟩ := h2
  have f1 := s1.blen r1 m1
  have f2 := s2.blen r2 m2
  have hR := ((r1.add r2).half hW (by omega)).norm
  have hN := nr8_of (sm M1 E1 M2 E2) (min E1 E2 - 1)
  rw [← half_exp] at hR hN
  have hO := oe_sm_range (n := 67108864) f1 f2 (by omega) x1 y1 x2 y2
  exact rmid_walk b1 a1 n1 k1 E1 b2 a2 n2 k2 E2 _ _ L W c w (fun X hg => rdAdd_any b1 a1 n1 k1 M1 E1 b2 a2 n2 k2 M2 E2 X (d1.below hg) (d2.below hg) m1 m2 (by omega) (by omega) x1 y1 x2 y2) hR hN hc (fun _ => by omega)

theorem novem {w : World} {g : Nat} {c0 c1 c2 c3 c4 c5 c6 c7 c8 : Value} {t : TypeId} (h : w.heap[g]? = some (.cells #[c0, c1, c2, c3, c4, c5, c6, c7, c8] t)) : (w.cell? ⟨g, 0, none⟩ = some c0 ∧ w.cell? ⟨g, 1, none⟩ = some c1 ∧ w.cell? ⟨g, 2, none⟩ = some c2) ∧ (w.cell? ⟨g, 3, none⟩ = some c3 ∧ w.cell? ⟨g, 4, none⟩ = some c4 ∧ w.cell? ⟨g, 5, none⟩ = some c5) ∧ (w.cell? ⟨g, 6, none⟩ = some c6 ∧ w.cell? ⟨g, 7, none⟩ = some c7 ∧ w.cell? ⟨g, 8, none⟩ = some c8) := by
  simp [World.cell?, h]

theorem refC_is {c d : Int} (h1 : IsCode c) (h2 : IsCode d) : IsCode (refC c d) := by
  rcases h1 with rfl | rfl | rfl <;> rcases h2 with rfl | rfl | rfl <;> (unfold IsCode; decide)

theorem refC_three {c d e : Int} (h1 : IsCode c) (h2 : IsCode d) (h3 : IsCode e) : refC (refC (refC 0 c) d) e = refC (refC c d) (refC d e) := by
  rcases h1 with rfl | rfl | rfl <;> rcases h2 with rfl | rfl | rfl <;> rcases h3 with rfl | rfl | rfl <;> decide

set_option maxRecDepth 20000 in
set_option maxHeartbeats 4000000 in
/-- What is wrong with three numbers as answers. -/
theorem rbad3 (gs : Nat) (b1 : Bool) (a1 : Option Addr) (n1 k1 : Nat) (E1 : Int) (b2 : Bool) (a2 : Option Addr) (n2 k2 : Nat) (E2 : Int) (b3 : Bool) (a3 : Option Addr) (n3 k3 : Nat) (E3 : Int) (L : Nat) (V1 V2 V3 d1 d2 d3 : Int) (w : World) (hg : w.heap[gs]? = some (.cells #[.bool b1, .slice a1 n1 k1, .int .i64 E1, .bool b2, .slice a2 n2 k2, .int .i64 E2, .bool b3, .slice a3 n3 k3, .int .i64 E3] 41)) (h1 : V8 w b1 a1 n1 k1 E1 L V1) (h2 : V8 w b2 a2 n2 k2 E2 L V2) (h3 : V8 w b3 a3 n3 k3 E3 L V3) (c1 : Code L V1 d1) (c2 : Code L V2 d2) (c3 : Code L V3 d3) :
    Calls Tryz.prog 19 #[.slice (some ⟨gs, 0, none⟩) 3 3] w fun e w' => e = .returned (.int .i64 (refC (refC d1 d2) (refC d2 d3))) ∧ Below w.heap.size w w' := by
  have HS := hide hg
  have K1 := hide (h1.told c1)
  have K2 := hide (h2.told c2)
  have K3 := hide (h3.told c3)
  obtain ⟨f1, hf1⟩ : ∃ f1, refC 0 d1 = f1 := ⟨_, rfl⟩
  obtain ⟨f2, hf2⟩ : ∃ f2, refC f1 d2 = f2 := ⟨_, rfl⟩
  obtain ⟨f3, hf3⟩ : ∃ f3, refC f2 d3 = f3 := ⟨_, rfl⟩
  have i0 : IsCode 0 := .inl rfl
  have i1 : IsCode f1 := by rw [← hf1]; exact refC_is i0 c1.is
  have i2 : IsCode f2 := by rw [← hf2]; exact refC_is i1 c2.is
  have W1 := hide (fun (X : World) => worst10_any 0 d1 X i0 c1.is)
  have W2 := hide (fun (X : World) => worst10_any f1 d2 X i1 c2.is)
  have W3 := hide (fun (X : World) => worst10_any f2 d3 X i2 c3.is)
  rw [hf1] at W1
  rw [hf2] at W2
  rw [hf3] at W3
  rw [show refC (refC d1 d2) (refC d2 d3) = f3 by rw [← refC_three c1.is c2.is c3.is, hf1, hf2, hf3]]
  clear hg h1 h2 h3 c1 c2 c3 hf1 hf2 hf3 i0 i1 i2
  go_enter Tryz.func19, Tryz.ntmps19
  go_wp2
  refine wp_loop_rounds 4 ?_
  have HB0 : Hid (Below w.heap.size w w) := hide (Below.refl _ _)
  rw [rounds_succ]
  obtain ⟨u1, hu1, hbu1, qu1⟩ := enter1 w (.cells #[.bool b1, .slice a1 n1 k1, .int .i64 E1] 41)
  have HU1 := hide (bl_trans8 HB0.out hbu1)
  have C := K1.out u1 HU1.out
  obtain ⟨y0, y1, y2⟩ := tri8 qu1
  obtain ⟨⟨x0, x1, x2⟩, ⟨x3, x4, x5⟩, ⟨x6, x7, x8⟩⟩ := novem (block_upW HB0.out HS.out)
  clear hbu1 qu1
  go_wp2_with fail
  refine C.mono ?_
  rintro e s1 ⟨⟨o1, p1, q1, r1, j1, rfl, _⟩, g1⟩
  obtain ⟨t1, ht1, hbt1, qt1⟩ := enter1 s1 (.cells #[.bool o1, .slice p1 q1 r1, .int .i64 j1] 41)
  have HB1 := hide (bl_trans8 (bl_trans8 HU1.out g1) hbt1)
  have C := W1.out t1
  clear g1 hbt1 qt1 x0 x1 x2 x3 x4 x5 x6 x7 x8 y0 y1 y2 hu1
  go_wp2_with fail
  refine C.mono ?_
  rintro e wn ⟨rfl, hw⟩; rw [hw]; clear hw wn C ht1
  go_wp2
  rw [rounds_succ]
  obtain ⟨u2, hu2, hbu2, qu2⟩ := enter1 t1 (.cells #[.bool b2, .slice a2 n2 k2, .int .i64 E2] 41)
  have HU2 := hide (bl_trans8 HB1.out hbu2)
  have C := K2.out u2 HU2.out
  obtain ⟨y0, y1, y2⟩ := tri8 qu2
  obtain ⟨⟨x0, x1, x2⟩, ⟨x3, x4, x5⟩, ⟨x6, x7, x8⟩⟩ := novem (block_upW HB1.out HS.out)
  clear hbu2 qu2
  go_wp2_with fail
  refine C.mono ?_
  rintro e s2 ⟨⟨o2, p2, q2, r2, j2, rfl, _⟩, g2⟩
  obtain ⟨t2, ht2, hbt2, qt2⟩ := enter1 s2 (.cells #[.bool o2, .slice p2 q2 r2, .int .i64 j2] 41)
  have HB2 := hide (bl_trans8 (bl_trans8 HU2.out g2) hbt2)
  have C := W2.out t2
  clear g2 hbt2 qt2 x0 x1 x2 x3 x4 x5 x6 x7 x8 y0 y1 y2 hu2
  go_wp2_with fail
  refine C.mono ?_
  rintro e wn ⟨rfl, hw⟩; rw [hw]; clear hw wn C ht2
  go_wp2
  rw [rounds_succ]
  obtain ⟨u3, hu3, hbu3, qu3⟩ := enter1 t2 (.cells #[.bool b3, .slice a3 n3 k3, .int .i64 E3] 41)
  have HU3 := hide (bl_trans8 HB2.out hbu3)
  have C := K3.out u3 HU3.out
  obtain ⟨y0, y1, y2⟩ := tri8 qu3
  obtain ⟨⟨x0, x1, x2⟩, ⟨x3, x4, x5⟩, ⟨x6, x7, x8⟩⟩ := novem (block_upW HB2.out HS.out)
  clear hbu3 qu3
  go_wp2_with fail
  refine C.mono ?_
  rintro e s3 ⟨⟨o3, p3, q3, r3, j3, rfl, _⟩, g3⟩
  obtain ⟨t3, ht3, hbt3, qt3⟩ := enter1 s3 (.cells #[.bool o3, .slice p3 q3 r3, .int .i64 j3] 41)
  have HB3 := hide (bl_trans8 (bl_trans8 HU3.out g3) hbt3)
  have C := W3.out t3
  clear g3 hbt3 qt3 x0 x1 x2 x3 x4 x5 x6 x7 x8 y0 y1 y2 hu3
  go_wp2_with fail
  refine C.mono ?_
  rintro e wn ⟨rfl, hw⟩; rw [hw]; clear hw wn C ht3
  go_wp2
  rw [rounds_succ]
  go_wp2
  go_ret
  exact ⟨rfl, HB3.out⟩

end Go.Proofs.YtolebfnkmjmfnaaGreatDoor

namespace Go.Proofs.YtolebfnkmjmfnaaGreatDoor
open Go.RowKit
open Lm
attribute [local go_sem ↓] Go.wp_at_zero Go.wp_at_succ

/-- The blocks that Own may turn. -/
def Turns (vs : List Value) (L : Nat) (g : Nat) : Prop := g = L ∨ ∃ i, i < vs.length ∧ (vs.getD i nilV).ownBlock = some g

/-- Nothing below base has turned, and no block but those. -/
structure BW (P : Nat → Prop) (base : Nat) (w w' : World) : Prop where
  below : Below base w w'
  other : ∀ (g : Nat) (x : Obj), ¬ P g → w.heap[g]? = some x → w'.heap[g]? = some x

theorem BW.refl (P : Nat → Prop) (base : Nat) (w : World) : BW P base w w := ⟨Below.refl _ _, fun _ _ _ h => h⟩

theorem BW.store {P : Nat → Prop} {base : Nat} {w wr : World} {g n cap : Nat} {zs : List Nat} (h : BW P base w wr) (ha : Ans wr base (.slice (some ⟨g, 0, none⟩) n cap) zs) (hP : P g) (j : Nat) (u : Value) : BW P base w (wr.setCell ⟨g, j, none⟩ u) := by
  obtain ⟨_, h2⟩ := ha.own
  rcases h2 with ⟨e, _⟩ | ⟨g', cap', cur, e, hge, hh, _⟩
  · cases e
  · simp only [Value.slice.injEq, Option.some.injEq, Addr.mk.injEq] at e
    obtain ⟨⟨rfl, _⟩, _⟩ := e
    refine ⟨h.below.setCell (p := ⟨g, j, none⟩) hge u, fun g2 x hn hc => ?_⟩
    rw [Below.heap_setCell _ _ _ _ (by rintro rfl; exact hn hP)]
    exact h.other g2 x hn hc

theorem BW.grew {P : Nat → Prop} {base : Nat} {w wr w2 : World} {v : Value} {zs : List Nat} {L : Nat} {vs : Array Value} {o : Obj} (h : BW P base w wr) (hrow : Ans wr base v zs) (hL : wr.heap[L]? = some (.cells vs 22 (0, 0))) (hb : base ≤ L) (hPv : ∀ g, v.ownBlock = some g → P g) (hPL : P L) (hg : (wr.alloc o).grownBy w2 v.ownBlock) (k : Nat) (u : Value) :
    BW P base w (w2.setCell ⟨L, k, none⟩ u) := by
  have hLs := lt_of_block hL
  refine ⟨((h.below.alloc (by omega) _).grown hg (by simp; omega) (fun g hg => (hrow.own.lt g hg).1)).setCell hb _, fun g2 x hn hc => ?_⟩
  have h1 := h.other g2 x hn hc
  have h1s := lt_of_block h1
  have hsz : (wr.alloc o).heap.size = wr.heap.size + 1 := by simp
  rw [Below.heap_setCell _ _ _ _ (by rintro rfl; exact hn hPL)]
  have e1 : (wr.alloc o).heap[g2]? = wr.heap[g2]? := Below.heap_alloc wr o g2 h1s
  rw [hg.block g2 (by omega) (fun e => hn (hPv g2 e.symm)), e1]
  exact h1

set_option maxHeartbeats 1000000 in
theorem own_anyW (L base : Nat) (vs : List Value) (rows : Nat → List Nat) (w : World) (h : St w base L vs rows) (hn : vs.length ≤ 1000) (hl : ∀ i, i < vs.length → (rows i).length ≤ 17592186044000) (hb : base ≤ L) :
    Calls Tryz.prog 20 #[.slice (some ⟨L, 0, none⟩) vs.length vs.length] w fun e w' => e = .returned (.bool true) ∧ BW (Turns vs L) base w w' := by
  go_enter Tryz.func20, Tryz.ntmps20
  go_wp2
  go_loopw [15] (fun i wr => ∃ k : Nat, k ≤ vs.length ∧ i = .int .i64 k ∧ St wr base L vs (overTo rows k) ∧ BW (Turns vs L) base w wr) (fun i _ => vs.length - (intOf i).toNat)
  case atStart => exact ⟨0, Nat.zero_le _, rfl, h.congr (fun i _ => by simp [overTo]), BW.refl _ _ _⟩
  case round =>
    obtain ⟨k, hk, rfl, hst, hbl⟩ := hrel
    by_cases hkl : k < vs.length
    · have hck := hst.cell k hkl
      have hrow := hst.row k hkl
      have hrk : overTo rows k k = rows k := by simp [overTo]
      rw [hrk] at hrow
      have hlk := hl k hkl
      have ec : (k : Int) % 251 + 1 = ((k % 251 + 1 : Nat) : Int) := by omega
      have bc : k % 251 + 1 < 18446744073709551616 := by omega
      have HRK := hide hrk
      have HOV : Hid (over rows k = List.replicate (rows k).length (k % 251 + 1)) := rfl
      have HST := hide hst
      have HBL := hide hbl
      generalize k % 251 + 1 = c at *
      clear hst hbl hrk h
      rcases hrow.form with ⟨hv, hz⟩ | ⟨g, cap, hv, hg1, hg2, hcap, hmax, _, _⟩
      · rw [hv] at hck
        have HZ := hide hz
        clear hrow hv hz
        go_wp2
        refine wp_loop_rounds 1 ?_
        rw [rounds_succ]
        go_wp2
        go_roundw
        case rel =>
          refine ⟨k + 1, by omega, by go_num, HST.out.congr (fun m _ => ?_), HBL.out⟩
          by_cases e : m = k
          · subst e
            rw [HRK.out]
            simp [overTo, over, HZ.out]
          · exact overTo_step rows k m e
        case measure => simp [intOf]; omega
      · rw [hv] at hck
        go_wp2
        go_loopw [22] (fun i wr => ∃ j : Nat, j ≤ (rows k).length ∧ i = .int .i64 j ∧ St wr base L vs (upd (overTo rows k) k (List.replicate j c ++ (rows k).drop j)) ∧ BW (Turns vs L) base w wr) (fun i _ => (rows k).length - (intOf i).toNat)
        case atStart =>
          refine ⟨0, Nat.zero_le _, rfl, HST.out.congr (fun m _ => ?_), HBL.out⟩
          by_cases e : m = k
          · subst e; rw [HRK.out, upd_same]; simp
          · rw [upd_other _ _ _ _ e]
        case round =>
          obtain ⟨j, hj, rfl, hst, hbl⟩ := hrel
          clear HST HBL
          by_cases hjl : j < (rows k).length
          · have hr2 := hst.row k hkl
            rw [upd_same] at hr2
            have hfl := fill_length (rows k) j c hj
            rcases hr2.form with ⟨hv2, _⟩ | ⟨g', cap', hv2, hg1', hg2', _, _, hfr', hcl'⟩
            · rw [hv2] at hv; cases hv
            · have hgg : g' = g := by rw [hv2] at hv; simp only [Value.slice.injEq, Option.some.injEq, Addr.mk.injEq] at hv; exact hv.1.1
              subst hgg
              have hfr := hfr' j
              have hco := hcl' j (by omega)
              have hst2 := hst.store k g' cap' hkl (by rw [upd_same]; exact hv2) j c bc
              rw [upd_same, fill_set (rows k) j c hjl] at hst2
              have HS := hide hst2
              have HL := hide (hbl.store (hv2 ▸ hr2) (.inr ⟨k, hkl, by rw [hv2]; rfl⟩) j (.int .u64 (c : Int)))
              generalize (List.replicate j c ++ (rows k).drop j).getD j 0 = o at *
              clear hst hbl hst2 hr2 hv2 hfr' hcl' hrow hv hck hfl
              go_wp2
              go_roundw
              case rel =>
                refine ⟨j + 1, by omega, by go_num, HS.out.congr (fun m _ => ?_), HL.out⟩
                by_cases e : m = k
                · subst e; rw [upd_same, upd_same]
                · rw [upd_other _ _ _ _ e, upd_other _ _ _ _ e, upd_other _ _ _ _ e]
              case measure => simp [intOf]; omega
          · have ej : j = (rows k).length := by omega
            subst ej
            have HS := hide hst
            have HL := hide hbl
            clear hst hbl hrow hv hck
            go_wp2
            go_roundw
            case rel =>
              refine ⟨k + 1, by omega, by go_num, HS.out.congr (fun m _ => ?_), HL.out⟩
              by_cases e : m = k
              · subst e
                rw [upd_same]
                have : overTo rows (m + 1) m = over rows m := by simp [overTo]
                rw [this, HOV.out]; simp
              · rw [upd_other _ _ _ _ e]; exact overTo_step rows k m e
            case measure => simp [intOf]; omega
    · have ek : k = vs.length := by omega
      subst ek
      have hst3 : St wr base L vs (over rows) := hst.congr (fun m hm => by simp [overTo, hm])
      have HST := hide hst3
      have HBL := hide hbl
      clear hst hbl hst3 h
      obtain ⟨i0, hi, hz0, hz1, hz2⟩ := info_parts Tryz.infoU
      go_wp2
      go_loopw [36] (fun i wr => ∃ (k : Nat) (us : List Value), k ≤ vs.length ∧ us.length = vs.length ∧ i = .int .i64 k ∧ (∀ m, k ≤ m → us.getD m nilV = vs.getD m nilV) ∧ St wr base L us (fun m => if m < k then over rows m ++ five (300 + 5 * m) else over rows m) ∧ BW (Turns vs L) base w wr) (fun i _ => vs.length - (intOf i).toNat)
      case atStart => exact ⟨0, vs, Nat.zero_le _, rfl, rfl, fun _ _ => rfl, HST.out.congr (fun m _ => by simp), HBL.out⟩
      case round =>
        obtain ⟨k, us, hk', hus, rfl, hsm, hst, hbl⟩ := hrel
        have HSM := hide hsm
        clear HST HBL hsm
        by_cases hkl' : k < vs.length
        · have hku : k < us.length := by omega
          have hck := hst.cell k hku
          have hrow := hst.row k hku
          simp only [Nat.lt_irrefl, if_false] at hrow
          have hfr := hst.free k
          have hlen : (over rows k).length ≤ 17592186044000 := by unfold over; rw [List.length_replicate]; exact hl k hkl'
          have eb : (300 : Int) + 5 * (k : Int) = ((300 + 5 * k : Nat) : Int) := by omega
          have HST := hide hst
          have HBL := hide hbl
          have HV := hide (rfl : us.getD k nilV = us.getD k nilV)
          have HB5 : Hid (300 + 5 * k < 6000) := by unfold Hid; omega
          obtain ⟨bb, hbb⟩ : ∃ bb, bb = 300 + 5 * k := ⟨_, rfl⟩
          rw [← hbb] at eb
          have hb6 : bb < 6000 := by omega
          have HBB := hide hbb
          generalize hv : us.getD k nilV = v at *
          have HVV := hide hv
          obtain ⟨b1, h1⟩ : ∃ b1, b1 = bb + 1 := ⟨_, rfl⟩
          obtain ⟨b2, h2⟩ : ∃ b2, b2 = bb + 2 := ⟨_, rfl⟩
          obtain ⟨b3, h3⟩ : ∃ b3, b3 = bb + 3 := ⟨_, rfl⟩
          obtain ⟨b4, h4⟩ : ∃ b4, b4 = bb + 4 := ⟨_, rfl⟩
          have g1 : (bb : Int) + 1 = (b1 : Int) := by omega
          have g2 : (bb : Int) + 2 = (b2 : Int) := by omega
          have g3 : (bb : Int) + 3 = (b3 : Int) := by omega
          have g4 : (bb : Int) + 4 = (b4 : Int) := by omega
          have q1 : b1 < 18446744073709551616 := by omega
          have q2 : b2 < 18446744073709551616 := by omega
          have q3 : b3 < 18446744073709551616 := by omega
          have q4 : b4 < 18446744073709551616 := by omega
          have H5 : Hid ([bb, b1, b2, b3, b4] = five (300 + 5 * k)) := hide (by rw [h1, h2, h3, h4, hbb]; rfl)
          clear hst hbl hv hbb HV h1 h2 h3 h4
          go_wp2_with (at_builtin; refine wpList_append_own_at _ rfl _ _ 22 rfl base 101 i0 (.int .u64 0) 1 8 Tryz.underlying22 hi hz0 hz1 hz2 rfl (by decide) v (over rows k).length _ rfl (hrow.own.alloc _) ⟨wr.heap.size, 0, none⟩ 5 5 ([bb, b1, b2, b3, b4].map lv) rfl rfl (news_cells [bb, b1, b2, b3, b4]) (lv_oneCell _) (by unfold maxLen; omega) (by omega) (by have := lt_of_block HST.out.list; simp; omega) ?_; intro v' w2 hown2 hgrow2 _ hat2; have hkp := HST.out.kept k hku HVV.out _ hgrow2; have hck2 := hkp.1; have hfr2 := hkp.2; clear hkp; obtain ⟨g5, cap5, hv5⟩ := own_shape hown2 (by omega); subst hv5; have HO := hide hown2; have HG := hide hgrow2; have HAT := hide hat2; clear hown2 hgrow2 hat2)
          go_roundw
          case rel =>
            refine ⟨k + 1, us.set k _, by omega, by rw [List.length_set]; exact hus, by go_num, (fun m hm => by rw [← HSM.out m (by omega)]; simp [List.getD, show k ≠ m by omega]), (HST.out.grow k hku _ _ (over rows k ++ five (300 + 5 * k)) ?_ ?_ (by rw [HVV.out]; exact HG.out) (by rw [HVV.out]; exact HAT.out)).congr (fun m _ => ?_), ?_⟩
            · rw [← H5.out, List.length_append, List.map_append]; exact HO.out
            · exact row_limbs rows k (by omega)
            · by_cases e : m = k
              · subst e; rw [upd_same]; simp
              · rw [upd_other _ _ _ _ e]
                by_cases h1 : m < k
                · rw [if_pos h1, if_pos (by omega)]
                · rw [if_neg h1, if_neg (by omega)]
            · have hLs := lt_of_block HST.out.list
              exact HBL.out.grew hrow HST.out.list hb (fun g hg => .inr ⟨k, hkl', by rw [← HSM.out k (Nat.le_refl _), HVV.out]; exact hg⟩) (.inl rfl) HG.out k _
          case measure => simp [intOf]; omega
        · have ek : k = vs.length := by omega
          subst ek
          have hst4 : St wr base L us (fun m => over rows m ++ five (300 + 5 * m)) := hst.congr (fun m hm => by simp [show m < vs.length by omega])
          have HST := hide hst4
          have HBL := hide hbl
          clear hst hbl hst4 hi hz0 hz1 hz2
          go_wp2
          go_loop [64] (fun i => ∃ k : Nat, k ≤ vs.length ∧ i = .int .i64 k) (fun i => vs.length - (intOf i).toNat)
          case atStart => exact ⟨0, Nat.zero_le _, rfl⟩
          case round =>
            obtain ⟨k, hk4, rfl⟩ := hrel
            by_cases hkl4 : k < vs.length
            · have hku : k < us.length := by omega
              have hck := HST.out.cell k hku
              have hrow := HST.out.row k hku
              have hlr : (over rows k ++ five (300 + 5 * k)).length = (rows k).length + 5 := by simp [over, five]
              rcases hrow.form with ⟨_, h0⟩ | ⟨g, cap, hv, _, _, hgl, hgm, _, hgc⟩
              · rw [h0] at hlr; simp at hlr
              · rw [hlr] at hv hgl hgc
                rw [hv] at hck
                have hzl := hl k hkl4
                have HGC := hide hgc
                clear hrow hgc hv hlr
                go_wp2
                go_loop [71] (fun i => ∃ j : Nat, j ≤ (rows k).length + 5 ∧ i = .int .i64 j) (fun i => (rows k).length + 5 - (intOf i).toNat)
                case atStart => exact ⟨0, Nat.zero_le _, rfl⟩
                case round =>
                  obtain ⟨j, hj, rfl⟩ := hrel
                  by_cases hjl : j < (rows k).length + 5
                  · have hcj := HGC.out j hjl
                    by_cases hj2 : j < (rows k).length
                    · rw [row_low rows k j hj2] at hcj
                      have ec : (k : Int) % 251 + 1 = ((k % 251 + 1 : Nat) : Int) := by omega
                      have bc : k % 251 + 1 < 18446744073709551616 := by omega
                      generalize k % 251 + 1 = c at *
                      have hne : ((c : Int) != (c : Int)) = false := by simp
                      have i1 : (j : Int) < ((rows k).length : Int) := by omega
                      have hd2 : decide (((rows k).length : Int) ≤ (j : Int)) = false := decide_eq_false (by omega)
                      generalize (rows k).length = zl at *
                      go_wp2
                      go_round
                      case rel => exact ⟨j + 1, by omega, by go_num⟩
                      case measure => simp [intOf]; omega
                    · rw [row_high rows k j (by omega) hjl] at hcj
                      have hd1 : decide ((j : Int) < ((rows k).length : Int)) = false := decide_eq_false (by omega)
                      have i1 : ((rows k).length : Int) ≤ (j : Int) := by omega
                      generalize (rows k).length = zl at *
                      obtain ⟨t, ht⟩ : ∃ t, t = 300 + 5 * k + (j - zl) := ⟨_, rfl⟩
                      rw [← ht] at hcj
                      have et : (300 : Int) + 5 * (k : Int) + (j : Int) - ((zl : Int) + 5) + 5 = (t : Int) := by omega
                      have bt : t < 18446744073709551616 := by omega
                      have hne : ((t : Int) != (t : Int)) = false := by simp
                      have HT := hide ht
                      clear ht
                      go_wp2
                      go_round
                      case rel => exact ⟨j + 1, by omega, by go_num⟩
                      case measure => simp [intOf]; omega
                  · go_wp2
                    go_round
                    case rel => exact ⟨k + 1, by omega, by go_num⟩
                    case measure => simp [intOf]; omega
            · go_wp2
              go_ret
              exact ⟨rfl, HBL.out⟩

theorem own_apartsW (base : Nat) (vs : List Value) (rss : List (List Nat)) (w : World) (h : Aparts w base vs rss) (hn : vs.length ≤ 1000) (hl : ∀ r ∈ rss, r.length ≤ 17592186044000) (hb : base ≤ w.heap.size) :
    Calls Tryz.prog 20 #[.slice (some ⟨w.heap.size, 0, none⟩) vs.length vs.length] (w.alloc (.cells vs.toArray 22)) fun e w' => e = .returned (.bool true) ∧ BW (Turns vs w.heap.size) base w w' := by
  have hst : St (w.alloc (.cells vs.toArray 22)) base w.heap.size vs (fun i => rss.getD i []) := by
    have h' := h.below ((Below.refl _ _).alloc (Nat.le_refl _) (.cells vs.toArray 22))
    exact ⟨by rw [heap_alloc_new], h'.row, h'.apart⟩
  refine (own_anyW w.heap.size base vs (fun i => rss.getD i []) _ hst hn ?_ hb).mono ?_
  · intro i hi
    have hi' : i < rss.length := by rw [← h.len]; exact hi
    show (rss.getD i []).length ≤ _
    have e : rss.getD i [] = rss[i] := by simp [List.getD, hi']
    rw [e]
    exact hl _ (List.getElem_mem _)
  · rintro e w' ⟨rfl, hbel⟩
    refine ⟨rfl, ((Below.refl _ _).alloc hb _).trans hbel.below, fun g x hn hc => hbel.other g x hn ?_⟩
    rw [Below.heap_alloc w _ g (lt_of_block hc)]; exact hc

end Go.Proofs.YtolebfnkmjmfnaaGreatDoor

namespace Go.Proofs.YtolebfnkmjmfnaaGreatDoor
open Go.RowKit
open Lm
attribute [local go_sem ↓] Go.wp_at_zero Go.wp_at_succ

theorem rv_le (V : Int) (P : Nat) (hP : 0 < P) : rv 0 V P ≤ V := by
  unfold rv rvQ
  rw [if_pos rfl]
  exact Int.ediv_mul_le _ (by omega)

theorem smidV_bad (b1 : Bool) (a1 : Option Addr) (k1 : Nat) (X : List Nat) (ex1 : Int) (b2 : Bool) (a2 : Option Addr) (k2 : Nat) (Y : List Nat) (ex2 : Int) (L : Nat) (V F : Int) (w : World) (_ : Tab w) (hA : Arg w (.slice a1 X.length k1) X) (hB : Arg w (.slice a2 Y.length k2) Y) (f1 : X.length ≤ 17592186043904) (f2 : Y.length ≤ 17592186043904) (hL : 4611686018427387904 ≤ L) (hF : flt ex1 ex2 (vof b1 X ex1 L) (vof b2 Y ex2 L) = F) (h0 : F ≠ 0) :
    Calls Tryz.prog 7 #[.agg #[.bool b1, .slice a1 X.length k1, .int .i64 ex1, .bool b2, .slice a2 Y.length k2, .int .i64 ex2]] w fun e w' => DAns w e w' F L V := by
  have hFl := fltOf_any b1 a1 k1 X ex1 b2 a2 k2 Y ex2 L w hA hB f1 f2 hL
  rw [hF] at hFl
  refine (smid_no b1 a1 _ k1 ex1 b2 a2 _ k2 ex2 _ w hFl h0).mono fun e w' h => ?_
  exact ⟨⟨_, _, _, _, _, _, h.1, .inl ⟨h0, rfl, rfl, rfl, rfl⟩⟩, h.2⟩

theorem sapartV_bad (b1 : Bool) (a1 : Option Addr) (k1 : Nat) (X : List Nat) (ex1 : Int) (b2 : Bool) (a2 : Option Addr) (k2 : Nat) (Y : List Nat) (ex2 : Int) (pos : Int) (L : Nat) (V1 C V2 F G : Int) (w : World) (_ : Tab w) (hA : Arg w (.slice a1 X.length k1) X) (hB : Arg w (.slice a2 Y.length k2) Y) (f1 : X.length ≤ 17592186043904) (f2 : Y.length ≤ 17592186043904) (hL : 4611686018427387904 ≤ L) (hG : flt ex1 ex2 (vof b1 X ex1 L) (vof b2 Y ex2 L) = G) (hF : fltAt G pos = F) (h0 : F ≠ 0) :
    Calls Tryz.prog 8 #[.agg #[.bool b1, .slice a1 X.length k1, .int .i64 ex1, .bool b2, .slice a2 Y.length k2, .int .i64 ex2], .int .i64 pos] w fun e w' => ApAns w e w' F L V1 C V2 := by
  have hFl := (fltOf_any b1 a1 k1 X ex1 b2 a2 k2 Y ex2 L w hA hB f1 f2 hL).at pos
  rw [hG, hF] at hFl
  exact sapart_bad b1 a1 _ k1 ex1 b2 a2 _ k2 ex2 pos F L V1 C V2 w hFl h0

theorem DAns.code {w w' : World} {e : Ending} {L : Nat} {V c : Int} (h : DAns w e w' 0 L V) (hc : Code L V c) : (∃ b a n k ex, e = .returned (.tuple #[.agg #[.bool b, .slice a n k, .int .i64 ex], .int .i64 c]) ∧ ∃ M E, DR w' w.heap.size b (.slice a n k) ex c M E ∧ Rp L M E V ∧ Nr8 M E) ∧ Below w.heap.size w w' := by
  obtain ⟨⟨b, a, n, k, ex, c', he, hd⟩, hb⟩ := h
  rcases hd with ⟨h0, _⟩ | ⟨_, M, E, h1, h2, h3⟩
  · exact absurd rfl h0
  · have hcc : c' = c := by rw [h1.code, hc.one ⟨M, E, h2, h3, rfl⟩]
    subst hcc
    exact ⟨⟨b, a, n, k, ex, he, M, E, h1, h2, h3⟩, hb⟩

theorem DRV.code {w : World} {base : Nat} {b : Bool} {v : Value} {ex c d : Int} {L : Nat} {V : Int} (h : DRV w base b v ex c 0 L V) (hc : Code L V d) : c = d := by
  rcases h with ⟨h0, _⟩ | ⟨_, M, E, h1, h2, h3⟩
  · exact absurd rfl h0
  · rw [h1.code, hc.one ⟨M, E, h2, h3, rfl⟩]

theorem sapartV_cut (b1 : Bool) (a1 : Option Addr) (k1 : Nat) (X : List Nat) (ex1 : Int) (b2 : Bool) (a2 : Option Addr) (k2 : Nat) (Y : List Nat) (ex2 : Int) (pos : Int) (L : Nat) (V1 C V2 W c : Int) (w : World) (hT : Tab w) (hA : Arg w (.slice a1 X.length k1) X) (hB : Arg w (.slice a2 Y.length k2) Y) (f1 : X.length ≤ 17592186043904) (f2 : Y.length ≤ 17592186043904) (hL : 4611686018427387904 ≤ L) (hF : flt ex1 ex2 (vof b1 X ex1 L) (vof b2 Y ex2 L) = 0) (hK : fitE pos = true) (hW : vof b1 X ex1 L + vof b2 Y ex2 L = 2 * W) (hc : Code L W c) (h0 : c ≠ 0) :
    Calls Tryz.prog 8 #[.agg #[.bool b1, .slice a1 X.length k1, .int .i64 ex1, .bool b2, .slice a2 Y.length k2, .int .i64 ex2], .int .i64 pos] w fun e w' => ApAns w e w' c L V1 C V2 := by
  have hFl := (fltOf_any b1 a1 k1 X ex1 b2 a2 k2 Y ex2 L w hA hB f1 f2 hL).at pos
  obtain ⟨hE1, hE2, _⟩ := flt_zero hF
  rw [hF, show fltAt 0 pos = 0 by unfold fltAt; rw [if_pos rfl, if_pos hK]] at hFl
  refine sapart_cut b1 a1 _ k1 ex1 b2 a2 _ k2 ex2 pos c L V1 C V2 w hFl h0 (fun U hg => scut_no b1 a1 _ k1 ex1 b2 a2 _ k2 ex2 pos c U h0 (fun Z hz => ?_))
  have hg' := bl_trans8 hg hz
  refine (ymidV b1 a1 k1 X ex1 b2 a2 k2 Y ex2 L W Z (hT.below hg') (hA.below hg') (hB.below hg') f1 f2 hE1 hE2 hL hW).mono fun e w' h => ?_
  obtain ⟨⟨b, a, n, k, ex, he, _⟩, hb⟩ := h.code hc
  exact ⟨⟨_, _, _, _, _, he⟩, hb⟩

theorem sapartV_ok (b1 : Bool) (a1 : Option Addr) (k1 : Nat) (X : List Nat) (ex1 : Int) (b2 : Bool) (a2 : Option Addr) (k2 : Nat) (Y : List Nat) (ex2 : Int) (pos : Int) (L : Nat) (W C d1 dc d2 : Int) (w : World) (hT : Tab w) (hA : Arg w (.slice a1 X.length k1) X) (hB : Arg w (.slice a2 Y.length k2) Y) (f1 : X.length ≤ 17592186043904) (f2 : Y.length ≤ 17592186043904) (hL : 4611686018427387904 ≤ L) (hF : flt ex1 ex2 (vof b1 X ex1 L) (vof b2 Y ex2 L) = 0) (hK : fitE pos = true) (hW : vof b1 X ex1 L + vof b2 Y ex2 L = 2 * W) (hc : Code L W 0) (hC : max (vof b1 X ex1 L) (rv 0 W (2 ^ (pos + L).toNat)) = C) (k1' : Code L (vof b1 X ex1 L) d1) (kc : Code L C dc) (k2' : Code L (vof b2 Y ex2 L) d2) :
    Calls Tryz.prog 8 #[.agg #[.bool b1, .slice a1 X.length k1, .int .i64 ex1, .bool b2, .slice a2 Y.length k2, .int .i64 ex2], .int .i64 pos] w fun e w' => ApAns w e w' (refC (refC d1 dc) (refC dc d2)) L (vof b1 X ex1 L) C (vof b2 Y ex2 L) := by
  have hFl := (fltOf_any b1 a1 k1 X ex1 b2 a2 k2 Y ex2 L w hA hB f1 f2 hL).at pos
  obtain ⟨hE1, hE2, hle⟩ := flt_zero hF
  rw [hF, show fltAt 0 pos = 0 by unfold fltAt; rw [if_pos rfl, if_pos hK]] at hFl
  have n1 : N8 w b1 a1 X.length k1 ex1 L (vof b1 X ex1 L) := ⟨X, rfl, hA, f1, hE1, rfl⟩
  have n2 : N8 w b2 a2 Y.length k2 ex2 L (vof b2 Y ex2 L) := ⟨Y, rfl, hB, f2, hE2, rfl⟩
  have hrl := rv_le W (2 ^ (pos + L).toNat) (Nat.two_pow_pos _)
  obtain ⟨M, E, hr, hn, _⟩ := hc
  refine sapart_ok b1 a1 _ k1 ex1 b2 a2 _ k2 ex2 pos L _ C _ d1 dc d2 w hT hFl hL n1 n2 (by omega) (by omega) k1' kc k2' (fun U hg => ?_)
  have hcut := scut_ok b1 a1 X.length k1 ex1 b2 a2 Y.length k2 ex2 pos M E L (vof b1 X ex1 L) W U (hT.below hg) (n1.below hg) hr hn hK hL (fun Z hz => ?_)
  · rw [hC] at hcut
    exact hcut
  have hg' := bl_trans8 hg hz
  refine (ymidV b1 a1 k1 X ex1 b2 a2 k2 Y ex2 L W Z (hT.below hg') (hA.below hg') (hB.below hg') f1 f2 hE1 hE2 hL hW).mono fun e w' h => ?_
  obtain ⟨⟨b, a, n, k, ex, he, M', E', hd, hr', hn'⟩, hb⟩ := h.code ⟨M, E, hr, hn, by assumption⟩
  obtain ⟨rfl, rfl⟩ := Rp.one hr hr' hn hn'
  exact ⟨⟨_, _, _, _, _, he, hd⟩, hb⟩

/-- The laws' one, of an answer and the document's number with its code. -/
theorem oneR (b : Bool) (a : Option Addr) (n k : Nat) (ex r c : Int) (b1 : Bool) (a1 : Option Addr) (n1 k1 : Nat) (E1 : Int) (L : Nat) (V : Int) (base : Nat) (w : World) (hS : DRV w base b (.slice a n k) ex r 0 L V) (hc : Code L V c) (hv : c = 0 → V8 w b1 a1 n1 k1 E1 L V) :
    Calls Tryz.prog 10 #[.agg #[.bool b, .slice a n k, .int .i64 ex], .int .i64 r, .agg #[.bool b1, .slice a1 n1 k1, .int .i64 E1], .int .i64 c] w fun e w' => e = .returned (.bool true) ∧ Below w.heap.size w w' := by
  refine oneV b a n k ex r 0 c b1 a1 n1 k1 E1 L V base w hS (fun h => absurd rfl h) (fun _ => ?_)
  by_cases h0 : c = 0
  · exact .inl ⟨h0, hv h0⟩
  · exact .inr ⟨h0, hS.code hc⟩

theorem DRV.lists {w : World} {base : Nat} {b : Bool} {v : Value} {ex c fl : Int} {L : Nat} {V : Int} (h : DRV w base b v ex c fl L V) : ∃ rs, Ans w base v rs ∧ rs.length ≤ 1048576 := by
  rcases h with ⟨_, _, _, rfl, _⟩ | ⟨_, M, E, ⟨rs, h1, h2 | h2 | h2⟩, _⟩
  · exact ⟨[], Ans.nil10 w base, by simp⟩
  · exact ⟨rs, h1, few_ofW h2.2.2.2.1 h2.2.2.1 (by have := h2.2.2.2.2.2.1; omega)⟩
  · exact ⟨rs, h1, by rw [h2.2.2.2.2.1]; simp⟩
  · exact ⟨rs, h1, by rw [h2.2.2.2.2.1]; simp⟩

theorem Ans.other10 {w w' : World} {base : Nat} {v : Value} {zs : List Nat} (h : Ans w base v zs) (ho : ∀ g x, v.ownBlock = some g → w.heap[g]? = some x → w'.heap[g]? = some x) : Ans w' base v zs := by
  refine ⟨?_, h.limbs⟩
  obtain ⟨h1, h2⟩ := h.own
  refine ⟨h1, ?_⟩
  rcases h2 with h2 | ⟨g', cap, cur, hv, hg', hh, r⟩
  · exact .inl h2
  · exact .inr ⟨g', cap, cur, hv, hg', ho g' _ (by rw [hv]; rfl) hh, r⟩

/-- Lists that lie from a block on are left alone by Own of lists ahead of it. -/
theorem Aparts.bw10 {w w' : World} {base base2 m : Nat} {vs us : List Value} {rss : List (List Nat)} (h : Aparts w m vs rss) (hk : BW (Turns us w.heap.size) base2 w w') (hu : ∀ i, i < us.length → ∀ g, (us.getD i nilV).ownBlock = some g → g < m) (hm : base ≤ m) : Aparts w' base vs rss := by
  refine ⟨h.len, fun i hi => ?_, h.apart⟩
  have hr := h.row i hi
  refine (hr.other10 fun g x hg hx => hk.other g x (fun hP => ?_) hx).base hm
  rcases hP with rfl | ⟨j, hj, ho⟩
  · have := lt_block10 hx
    omega
  · have h1 := hu j hj g ho
    have h2 := (hr.own.lt g hg).1
    omega

/-- A box with the document's number and its code. -/
def OneC (U : World) (L : Nat) (V c : Int) (s f : Value) (wx : World) : Prop :=
  ∃ (g : Nat) (b : Bool) (a : Option Addr) (n k : Nat) (e' : Int), s = .pointer (some ⟨g, 0, none⟩) ∧ f = .int .i64 c ∧ wx.heap[g]? = some (.cells #[.bool b, .slice a n k, .int .i64 e'] 41) ∧ (c = 0 → V8 wx b a n k e' L V) ∧ Below U.heap.size U wx

theorem one_c {U t : World} {L : Nat} {V c : Int} {b : Bool} {a : Option Addr} {n k : Nat} {e' : Int} (hs : c = 0 → V8 t b a n k e' L V) (g : Below U.heap.size U t) : OneC U L V c (.pointer (some ⟨t.heap.size, 0, none⟩)) (.int .i64 c) (t.alloc (.cells #[.bool b, .slice a n k, .int .i64 e'] 41)) :=
  ⟨_, b, a, n, k, e', rfl, rfl, heap_alloc_new _ _, fun h => (hs h).below (below_one6 _ _), bl_alloc10 g _⟩

theorem one_cs {U t : World} {L : Nat} {V c : Int} {b : Bool} {a : Option Addr} {n k : Nat} {e' : Int} {gg : Nat} (hq : t.heap[gg]? = some (.cells #[.bool false, .slice none 0 0, .int .i64 0] 41)) (hge : U.heap.size ≤ gg) (hs : c = 0 → V8 t b a n k e' L V) (g : Below U.heap.size U t) : OneC U L V c (.pointer (some ⟨gg, 0, none⟩)) (.int .i64 c) (((t.setCell ⟨gg, 0, none⟩ (.bool b)).setCell ⟨gg, 1, none⟩ (.slice a n k)).setCell ⟨gg, 2, none⟩ (.int .i64 e')) :=
  ⟨_, b, a, n, k, e', rfl, rfl, tri8_all hq _ _ _, fun h => (hs h).tri8 hq b a n k (.int .i64 e'), below_tri8 g hge _ _ _⟩

/-- A number of the document's, if its code is 0. -/
def V8if (c : Int) (w : World) (b : Bool) (a : Option Addr) (n k : Nat) (E : Int) (L : Nat) (V : Int) : Prop := c = 0 → V8 w b a n k E L V

theorem V8if.below {c : Int} {w w' : World} {b : Bool} {a : Option Addr} {n k : Nat} {E : Int} {L : Nat} {V : Int} (h : V8if c w b a n k E L V) (hb : Below w.heap.size w w') : V8if c w' b a n k E L V := fun h0 => (h h0).below hb

theorem Aparts.cut10 {w : World} {base : Nat} {v1 v2 : Value} {r1 r2 : List Nat} (h1 : Ans w base v1 r1) (h2 : Ans w base v2 r2) {m : Nat} (hm : ∀ g, v1.ownBlock = some g → g < m) (h3 : Ans w m v2 r2) : Aparts w base [v1, v2] [r1, r2] := Aparts.pair10 h1 h2 (apart10 hm h3)

/-- Two spans that were answered, at their world. -/
theorem ApR.below {w0 w w' : World} {base : Nat} {b1 : Bool} {v1 : Value} {e1 : Int} {b2 : Bool} {v2 : Value} {e2 : Int} {b3 : Bool} {v3 : Value} {e3 : Int} {b4 : Bool} {v4 : Value} {e4 m : Int} {L : Nat} {V1 C V2 : Int} (h : ApR w0 base w b1 v1 e1 b2 v2 e2 b3 v3 e3 b4 v4 e4 m L V1 C V2) (hb : Below w.heap.size w w') : ApR w0 base w' b1 v1 e1 b2 v2 e2 b3 v3 e3 b4 v4 e4 m L V1 C V2 := by
  obtain ⟨h1, h2, ⟨rss, h3, h4⟩, h5⟩ := h
  exact ⟨h1.below hb, h2.below hb, ⟨rss, h3.below hb, h4⟩, bl_trans8 h5 hb⟩

theorem BW.box10 {w w' : World} {base base2 : Nat} {vs : List Value} {rss : List (List Nat)} (hk : BW (Turns vs w.heap.size) base2 w w') (h : Aparts w base vs rss) {g : Nat} {cs : Array Value} {t : TypeId} (ht : t ≠ 101) (hc : w.heap[g]? = some (.cells cs t)) : w'.heap[g]? = some (.cells cs t) := by
  refine hk.other g _ (fun hP => ?_) hc
  rcases hP with rfl | ⟨i, hi, ho⟩
  · have := lt_block10 hc
    omega
  · obtain ⟨_, h2⟩ := (h.row i hi).own
    rcases h2 with ⟨e, _⟩ | ⟨g', cap', cur, e, hge, hh, _⟩
    · rw [e] at ho; cases ho
    · rw [e] at ho
      simp only [Value.ownBlock, Option.some.injEq] at ho
      subst ho
      rw [hh] at hc
      simp only [Option.some.injEq, Obj.cells.injEq] at hc
      exact ht hc.2.1.symm

theorem own2W (base : Nat) (v1 v2 : Value) (r1 r2 : List Nat) (w : World) (h : Aparts w base [v1, v2] [r1, r2]) (l1 : r1.length ≤ 1048576) (l2 : r2.length ≤ 1048576) (hb : base ≤ w.heap.size) :
    Calls Tryz.prog 20 #[.slice (some ⟨w.heap.size, 0, none⟩) 2 2] (w.alloc (.cells #[v1, v2] 22)) fun e w' => e = .returned (.bool true) ∧ BW (Turns [v1, v2] w.heap.size) base w w' :=
  own_apartsW base [v1, v2] [r1, r2] w h (by simp) (by intro r hr; simp at hr; rcases hr with rfl | rfl <;> omega) hb

theorem turn2 {v1 v2 : Value} {m : Nat} (h1 : ∀ g, v1.ownBlock = some g → g < m) (h2 : ∀ g, v2.ownBlock = some g → g < m) : ∀ i, i < [v1, v2].length → ∀ g, (([v1, v2] : List Value).getD i nilV).ownBlock = some g → g < m := by
  intro i hi g hg
  rcases i with _ | _ | i
  · exact h1 g hg
  · exact h2 g hg
  · have h9 : i + 1 + 1 < 2 := hi
    omega

theorem le_big10 {rss : List (List Nat)} (h : ∀ r ∈ rss, r.length ≤ 1048576) : ∀ r ∈ rss, r.length ≤ 17592186044000 := fun r hr => Nat.le_trans (h r hr) (by omega)

theorem zero_box3w (w : World) (t : TypeId) : ∃ w1 w2, w.alloc (.cells #[.bool false, .slice none 0 0, .int .i64 0] t) = w1 ∧ ((w1.setCell ⟨w.heap.size, 0, none⟩ (.bool false)).setCell ⟨w.heap.size, 1, none⟩ (.slice none 0 0)).setCell ⟨w.heap.size, 2, none⟩ (.int .i64 0) = w2 ∧ w1.heap[w.heap.size]? = some (.cells #[.bool false, .slice none 0 0, .int .i64 0] t) ∧ w2.heap[w.heap.size]? = some (.cells #[.bool false, .slice none 0 0, .int .i64 0] t) ∧ Below w.heap.size w w2 :=
  ⟨_, _, rfl, rfl, heap_alloc_new _ _, tri8_all (heap_alloc_new _ _) _ _ _, below_tri8 (below_one6 _ _) (Nat.le_refl _) _ _ _⟩

end Go.Proofs.YtolebfnkmjmfnaaGreatDoor

namespace Go.Proofs.YtolebfnkmjmfnaaGreatDoor
open Go.RowKit
open Lm

theorem box_at10 {W W' : World} {u : Nat} {y : Value} {x : Obj} (hb : Below W.heap.size W W') (h : ∃ g, y = .pointer (some ⟨g, 0, none⟩) ∧ u ≤ g ∧ W.heap[g]? = some x) : ∃ g, y = .pointer (some ⟨g, 0, none⟩) ∧ u ≤ g ∧ W'.heap[g]? = some x := by
  obtain ⟨g, h1, h2, h3⟩ := h
  exact ⟨g, h1, h2, block_upW hb h3⟩

/-- What has been done so far: which calls have answered (c), which boxes have been made (k). -/
structure JL (u : World) (P1 P2 : World → Value → Prop) (c1 c2 k1 k2 : Bool) (x1 x2 y1 y2 : Value) (W : World) : Prop where
  up : Below u.heap.size u W
  ch : c2 = true → c1 = true
  q1 : c1 = true → P1 W x1
  q2 : c2 = true → P2 W x2
  r1 : k1 = true → ∃ g, y1 = .pointer (some ⟨g, 0, none⟩) ∧ u.heap.size ≤ g ∧ W.heap[g]? = some (.cells #[.slice none 0 0, .slice none 0 0, .bool false, .slice none 0 0, .int .i64 0, .bool false, .slice none 0 0, .int .i64 0] 35)
  r2 : k2 = true → ∃ g, y2 = .pointer (some ⟨g, 0, none⟩) ∧ u.heap.size ≤ g ∧ W.heap[g]? = some (.cells #[.slice none 0 0, .slice none 0 0, .bool false, .slice none 0 0, .int .i64 0, .bool false, .slice none 0 0, .int .i64 0] 35)
  d12 : k1 = true → k2 = true → y1 ≠ y2
  p1 : ∀ W W' x, Below W.heap.size W W' → P1 W x → P1 W' x
  p2 : ∀ W W' x, Below W.heap.size W W' → P2 W x → P2 W' x

theorem JL.below {u : World} {P1 P2 : World → Value → Prop} {c1 c2 k1 k2 : Bool} {x1 x2 y1 y2 : Value} {W W' : World} (h : JL u P1 P2 c1 c2 k1 k2 x1 x2 y1 y2 W) (hb : Below W.heap.size W W') : JL u P1 P2 c1 c2 k1 k2 x1 x2 y1 y2 W' :=
  ⟨bl_trans8 h.up hb, h.ch, fun e => h.p1 _ _ _ hb (h.q1 e), fun e => h.p2 _ _ _ hb (h.q2 e), fun e => box_at10 hb (h.r1 e), fun e => box_at10 hb (h.r2 e), h.d12, h.p1, h.p2⟩

end Go.Proofs.YtolebfnkmjmfnaaGreatDoor
