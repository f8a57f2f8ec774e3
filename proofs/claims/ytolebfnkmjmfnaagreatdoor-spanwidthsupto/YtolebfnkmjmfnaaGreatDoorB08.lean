/- Plain facts: what is rounded, at one scale. -/
import Derived.Test.YtolebfnkmjmfnaaGreatDoorB07
import Derived.Test.YtolebfnkmjmfnaaGreatDoorB03
import Derived.Test.YtolebfnkmjmfnaaGreatDoorB06
import Derived.Test.YtolebfnkmjmfnaaGreatDoorB04
import Derived.Test.YtolebfnkmjmfnaaGreatDoorB05
namespace Go.Proofs.YtolebfnkmjmfnaaGreatDoor
open Go.RowKit
open Lm

def rvQ (m V : Int) (P : Nat) : Int :=
  if m = 0 then V / (P : Int) else if m = 1 then -((-V) / (P : Int)) else if (P : Int) < 2 * (V % (P : Int)) ∨ (2 * (V % (P : Int)) = (P : Int) ∧ V / (P : Int) % 2 = 1) then V / (P : Int) + 1 else V / (P : Int)

/-- V at a multiple of P. -/
def rv (m V : Int) (P : Nat) : Int := rvQ m V P * (P : Int)

theorem rv_mult {m V : Int} {P : Nat} (hP : 0 < P) (h : V % (P : Int) = 0) : rv m V P = V := by
  have h1 := Int.mul_ediv_add_emod V (P : Int)
  rw [h, Int.add_zero, Int.mul_comm] at h1
  unfold rv rvQ
  split
  · exact h1
  · split
    · rw [Int.neg_ediv_of_dvd (Int.dvd_of_emod_eq_zero h), Int.neg_neg]; exact h1
    · rw [if_neg, h1]
      rw [h]; omega

theorem rvQ_scale (m V : Int) (P T : Nat) (hT : 0 < T) : rvQ m (V * (T : Int)) (P * T) = rvQ m V P := by
  have hT' : (0 : Int) < (T : Int) := by omega
  have e1 : V * (T : Int) / ((P * T : Nat) : Int) = V / (P : Int) := by
    rw [Int.natCast_mul]; exact Int.mul_ediv_mul_of_pos_left _ _ hT'
  have e2 : -(V * (T : Int)) / ((P * T : Nat) : Int) = -V / (P : Int) := by
    rw [Int.natCast_mul, ← Int.neg_mul]; exact Int.mul_ediv_mul_of_pos_left _ _ hT'
  have e3 : V * (T : Int) % ((P * T : Nat) : Int) = V % (P : Int) * (T : Int) := by
    rw [Int.natCast_mul]
    have h1 := Int.mul_ediv_add_emod V (P : Int)
    have h2 := Int.mul_ediv_add_emod (V * (T : Int)) ((P : Int) * (T : Int))
    rw [Int.mul_ediv_mul_of_pos_left _ _ hT'] at h2
    generalize V / (P : Int) = q at *
    generalize V % (P : Int) = r at *
    rw [← h1] at h2 ⊢
    grind
  unfold rvQ
  rw [e1, e2, e3]
  have c1 : ((P * T : Nat) : Int) < 2 * (V % (P : Int) * (T : Int)) ↔ (P : Int) < 2 * (V % (P : Int)) := by
    rw [Int.natCast_mul, ← Int.mul_assoc]
    exact ⟨fun h => Int.lt_of_mul_lt_mul_right h (by omega), fun h => Int.mul_lt_mul_of_pos_right h hT'⟩
  have c2 : 2 * (V % (P : Int) * (T : Int)) = ((P * T : Nat) : Int) ↔ 2 * (V % (P : Int)) = (P : Int) := by
    rw [Int.natCast_mul, ← Int.mul_assoc]
    exact ⟨fun h => Int.eq_of_mul_eq_mul_right (by omega) h, fun h => by rw [h]⟩
  simp only [c1, c2]

theorem rv_scale (m V : Int) (P T : Nat) (hT : 0 < T) : rv m (V * (T : Int)) (P * T) = rv m V P * (T : Int) := by
  unfold rv
  rw [rvQ_scale m V P T hT, Int.natCast_mul, Int.mul_assoc]

theorem flq_ediv (y : Int) (P : Nat) (hP : 0 < P) : flq y (P : Int) = y / (P : Int) := by
  have hP' : (0 : Int) < (P : Int) := by omega
  have e1 : decide ((P : Int) < 0) = false := decide_eq_false (by omega)
  have h1 := Nat.div_add_mod y.natAbs P
  have h2 := Nat.mod_lt y.natAbs hP
  unfold flq
  rw [e1, Int.natAbs_natCast]
  generalize hq : y.natAbs / P = q at *
  generalize hr : y.natAbs % P = r at *
  have h3 : (y.natAbs : Int) = (P : Int) * (q : Int) + (r : Int) := by rw [← h1]; simp
  by_cases hy : y < 0
  · rw [decide_eq_true hy]
    have h4 : y = -((P : Int) * (q : Int) + (r : Int)) := by omega
    by_cases h0 : r = 0
    · subst h0
      have : y = -(q : Int) * (P : Int) := by rw [h4, Int.neg_mul, Int.mul_comm]; simp
      rw [this, Int.mul_ediv_cancel _ (by omega)]
      simp [zz]
    · have : y = ((P : Int) - (r : Int)) + (-(q : Int) - 1) * (P : Int) := by rw [h4, Int.sub_mul, Int.neg_mul, Int.one_mul, Int.mul_comm (q : Int)]; omega
      rw [this, Int.add_mul_ediv_right _ _ (by omega), Int.ediv_eq_zero_of_lt (by omega) (by omega)]
      simp [zz, h0]
  · rw [decide_eq_false hy]
    have h4 : y = (r : Int) + (q : Int) * (P : Int) := by rw [Int.mul_comm]; omega
    rw [h4, Int.add_mul_ediv_right _ _ (by omega), Int.ediv_eq_zero_of_lt (by omega) (by omega)]
    simp [zz]

theorem flq_emod (y : Int) (P : Nat) (hP : 0 < P) : y - flq y (P : Int) * (P : Int) = y % (P : Int) := by
  rw [flq_ediv y P hP]
  have := Int.mul_ediv_add_emod y (P : Int)
  rw [Int.mul_comm] at this
  omega

theorem ceq_rv (y : Int) (P : Nat) (hP : 0 < P) : ceq y (P : Int) = rvQ 1 y P := by
  unfold ceq rvQ
  rw [flq_emod y P hP, flq_ediv y P hP, if_neg (show ¬ (1 : Int) = 0 by decide), if_pos (show (1 : Int) = 1 from rfl)]
  have h1 := Int.mul_ediv_add_emod y (P : Int)
  have h2 := Int.emod_nonneg y (show (P : Int) ≠ 0 by omega)
  have h3 := Int.emod_lt_of_pos y (show (0 : Int) < (P : Int) by omega)
  generalize y / (P : Int) = q at *
  generalize y % (P : Int) = r at *
  split
  · rename_i h
    have : -y = (-q) * (P : Int) := by rw [← h1, h, Int.neg_mul, Int.mul_comm]; omega
    rw [this, Int.mul_ediv_cancel _ (by omega), Int.neg_neg]
  · have : -y = ((P : Int) - r) + (-q - 1) * (P : Int) := by rw [← h1, Int.sub_mul, Int.neg_mul, Int.one_mul, Int.mul_comm q]; omega
    rw [this, Int.add_mul_ediv_right _ _ (by omega), Int.ediv_eq_zero_of_lt (by omega) (by omega)]
    omega

theorem neq_rv (y : Int) (P : Nat) (hP : 0 < P) : neq y (P : Int) = rvQ 2 y P := by
  unfold neq nearC rvQ
  rw [flq_emod y P hP, flq_ediv y P hP, if_neg (show ¬ (2 : Int) = 0 by decide), if_neg (show ¬ (2 : Int) = 1 by decide), Int.natAbs_natCast]
  have h2 := Int.emod_nonneg y (show (P : Int) ≠ 0 by omega)
  have e : (decide (P < (y % (P : Int)).natAbs * 2) || decide ((y % (P : Int)).natAbs * 2 = P) && decide ((y / (P : Int)).natAbs % 2 = 1)) = decide ((P : Int) < 2 * (y % (P : Int)) ∨ (2 * (y % (P : Int)) = (P : Int) ∧ y / (P : Int) % 2 = 1)) := by
    rw [← Bool.decide_and, ← Bool.decide_or]
    refine decide_eq_decide.2 ?_
    omega
  rw [e]
  simp only [decide_eq_true_eq]

theorem rq_rv {m : Int} (hm : m = 0 ∨ m = 1 ∨ m = 2) (b : Bool) (x s : Nat) (hx : x % 2 = 1) (hs : 0 < s) : zz b (rq b x s m) = rvQ m (zz b x) (2 ^ s) := by
  have hP : 0 < 2 ^ s := Nat.two_pow_pos s
  rcases hm with rfl | rfl | rfl
  · rw [← rq_floor b x s hx hs, flq_ediv _ _ hP]; simp [rvQ]
  · rw [← rq_ceil b x s hx hs, ceq_rv _ _ hP]
  · rw [← rq_near b x s hx hs, neq_rv _ _ hP]

theorem rnd_rv {L : Nat} {M E V pos m : Int} (hr : Rp L M E V) (hn : Nr8 M E) (hp : 0 ≤ pos + L) (hm : m = 0 ∨ m = 1 ∨ m = 2) : Rp L (rndM M E pos m) (rndE M E pos) (rv m V (2 ^ (pos + L).toNat)) := by
  have hP : 0 < 2 ^ (pos + L).toNat := Nat.two_pow_pos _
  obtain ⟨h1, h2⟩ := hr
  by_cases h0 : M = 0
  · unfold rndM rndE
    rw [if_pos (.inl h0), if_pos (.inl h0)]
    have hV : V = 0 := by rw [← h2, h0, Int.zero_mul]
    rw [hV, rv_mult hP (by simp)]
    exact ⟨h1, by rw [h0, Int.zero_mul]⟩
  by_cases he : pos ≤ E
  · unfold rndM rndE
    rw [if_pos (.inr he), if_pos (.inr he), rv_mult hP]
    · exact ⟨h1, h2⟩
    · rw [← h2, show (E + L).toNat = (E - pos).toNat + (pos + L).toNat by omega, Int.pow_add, ← Int.mul_assoc, Int.natCast_pow]
      exact Int.mul_emod_left _ _
  · have hc : ¬ (M = 0 ∨ pos ≤ E) := by omega
    unfold rndM rndE
    rw [if_neg hc, if_neg hc]
    refine ⟨hp, ?_⟩
    have hodd : M.natAbs % 2 = 1 := by
      rcases hn with ⟨h, _⟩ | h
      · exact absurd h h0
      · exact h
    have hT : 0 < 2 ^ (E + L).toNat := Nat.two_pow_pos _
    have e1 : (2 : Nat) ^ (pos + L).toNat = 2 ^ (pos - E).toNat * 2 ^ (E + L).toNat := by rw [← Nat.pow_add]; congr 1; omega
    have e2 : V = M * ((2 ^ (E + L).toNat : Nat) : Int) := by rw [← h2, Int.natCast_pow]; rfl
    have e3 : (2 : Int) ^ (pos + L).toNat = ((2 ^ (pos + L).toNat : Nat) : Int) := by rw [Int.natCast_pow]; rfl
    rw [e3, e1, e2, rv_scale _ _ _ _ hT, rq_rv hm _ _ _ hodd (by omega), zz_self]
    unfold rv
    rw [Int.natCast_mul, Int.mul_assoc]

end Go.Proofs.YtolebfnkmjmfnaaGreatDoor

namespace Go.Proofs.YtolebfnkmjmfnaaGreatDoor
open Go.RowKit
open Lm
attribute [local go_sem ↓] Go.wp_at_zero Go.wp_at_succ

/-- rounded of any number, with a bound on its length. -/
theorem yrounded_all (b : Bool) (a : Option Addr) (c : Nat) (X : List Nat) (M E pos m : Int) (w : World) (hN : Nm w b (.slice a X.length c) X M) (he1 : -1152921504606846976 ≤ E) (he2 : E ≤ 1152921504606846976) (hp1 : -1152921504606846976 ≤ pos) (hp2 : pos ≤ 1152921504606846976) (hm : m = 0 ∨ m = 1 ∨ m = 2) (hf : X.length ≤ 17592186044416) :
    Calls Tryz.prog 114 #[.agg #[.bool b, .slice a X.length c, .int .i64 E], .int .i64 pos, .int .i64 m] w (YNum w (rndM M E pos m) (rndE M E pos)) := by
  by_cases hs : M = 0 ∨ pos ≤ E
  · rw [show rndM M E pos m = M by unfold rndM; rw [if_pos hs], show rndE M E pos = E by unfold rndE; rw [if_pos hs]]
    exact yrounded_same b a c X M E pos m w hN he1 he2 hp1 hp2 hs
  · have hM : M ≠ 0 := fun h => hs (.inl h)
    have hb : decide (M < 0) = b := by
      rw [← hN.val]
      exact zz_lt (by rw [hN.abs]; omega)
    rw [show rndM M E pos m = zz b (rq b M.natAbs (pos - E).toNat m) by unfold rndM; rw [if_neg hs, hb], show rndE M E pos = pos by unfold rndE; rw [if_neg hs]]
    have hpe : E < pos := Int.lt_of_not_ge fun h => hs (.inr h)
    exact yrounded_any b a c X M E pos m (pos - E).toNat w hN hM (by omega) (by omega) he1 he2 hp1 hp2 hm hf

/-- Rounding makes a number hardly longer. -/
theorem rnd_blen (M E pos m : Int) (n : Nat) (h : blen M.natAbs ≤ n) : blen (rndM M E pos m).natAbs ≤ n + 1 := by
  unfold rndM
  split
  · omega
  · rw [zz_abs]
    unfold rq
    have h1 := Nat.div_le_self M.natAbs (2 ^ (pos - E).toNat)
    have h2 := (blen_le_iff _ _).1 h
    refine (blen_le_iff _ _).2 ?_
    rw [Nat.pow_succ]
    have := Nat.two_pow_pos n
    split <;> omega

set_option maxRecDepth 20000 in
set_option maxHeartbeats 1000000 in
theorem yround_ok (b : Bool) (a : Option Addr) (c : Nat) (X : List Nat) (ex pos m : Int) (w : World) (hA : Arg w (.slice a X.length c) X) (hT : Tab w) (hf : X.length ≤ 17592186044400) (hE : fitE ex = true) (hK : fitE pos = true) (hM : isM m = true) :
    Calls Tryz.prog 86 #[.agg #[.bool b, .slice a X.length c, .int .i64 ex], .int .i64 pos, .int .i64 m] w fun e w' => DRes w' w.heap.size e (omz (rndM (omz (zz b (val X))) (oe (zz b (val X)) ex) pos m)) (oe (rndM (omz (zz b (val X))) (oe (zz b (val X)) ex) pos m) (rndE (omz (zz b (val X))) (oe (zz b (val X)) ex) pos)) ∧ Below w.heap.size w w' := by
  have hm := (isM_iff m).1 hM
  have hKr := (fitE_iff pos).1 hK
  have hf0 : X.length ≤ 17592186044416 := by omega
  obtain ⟨w0, hw0, hb0, h0, h1'⟩ := enter2 w (.cells #[.bool b, .slice a X.length c, .int .i64 ex] 31) (.cells #[.bool false, .slice none 0 0, .int .i64 0] 31)
  obtain ⟨k0, k1, k2⟩ := tri8 h0
  have HP := yread_ok b a c X ex w0 (hA.below hb0) (hT.below hb0) hf0 hE
  have HC := hide h1'
  have HB := hide hb0
  have HT := hide hT
  have hbz : blen (zz b (val X)).natAbs ≤ 64 * X.length := by
    rw [zz_abs, blen_le_iff, Nat.mul_comm, ← W_pow]; exact val_lt hA.limbs
  have hEr := (fitE_iff ex).1 hE
  have hOE := oe_range (zz b (val X)) ex (by omega)
  have hbo : blen (omz (zz b (val X))).natAbs ≤ 17592186044400 * 64 := by
    have h5 := blen_mono (od_le (zz b (val X)).natAbs)
    rw [omz_abs]; omega
  clear h0 h1' hb0 hE hA hT hbz
  generalize oe (zz b (val X)) ex = E at *
  generalize omz (zz b (val X)) = M at *
  have he1 : -1152921504606846976 ≤ E := by omega
  have he2 : E ≤ 1152921504606846976 := by omega
  have HBO := hide hbo
  have HRB := hide (rnd_blen M E pos m _ hbo)
  have hRE : -2305843009213693952 ≤ rndE M E pos ∧ rndE M E pos ≤ 2305843009213693952 := by unfold rndE; split <;> omega
  have HRD := hide (fun (W : World) (b1 : Bool) (a1 : Option Addr) (c1 : Nat) (X1 : List Nat) (hn : Nm W b1 (.slice a1 X1.length c1) X1 M) => yrounded_all b1 a1 c1 X1 M E pos m W hn he1 he2 (by omega) (by omega) hm (hn.len 17592186044416 (by omega)))
  generalize rndE M E pos = RE at *
  generalize rndM M E pos m = RM at *
  clear hOE he1 he2 hbo hm
  go_enter Tryz.func86, Tryz.ntmps86
  go_wp2_with fail
  refine HP.mono ?_
  rintro e t1 ⟨⟨b1, a1, n1, c1, X1, rfl, rfl, N1, hb1⟩, g1⟩
  obtain ⟨w4, hw4, hb4, h4⟩ := enter1 t1 (.cells #[.bool b1, .slice a1 X1.length c1, .int .i64 E] 129)
  have HC1 := hide (block_upW hb4 (block_upW g1 HC.out))
  have HG := hide (bl_trans8 (bl_trans8 HB.out g1) hb4)
  have HI := yisPos_any pos w4
  have HMO := yisMode_any m w4
  have hf1 := tri8f HC1.out
  obtain ⟨m0, m1, m2⟩ := tri8 HC1.out
  obtain ⟨l0, l1, l2⟩ := tri8 h4
  have HN1 := hide (N1.below hb4)
  clear g1 hb4 h4 HP HC HB N1
  rw [hK] at HI
  rw [hM] at HMO
  go_wp2_with fail
  refine HI.mono ?_
  rintro e wn ⟨rfl, hw⟩; rw [hw]; clear hw wn HI
  go_wp2_with fail
  refine HMO.mono ?_
  rintro e wn ⟨rfl, hw⟩; rw [hw]; clear hw wn HMO
  have HRR := HRD.out w4 b1 a1 c1 X1 HN1.out
  clear HRD HN1
  go_wp2_with fail
  refine HRR.mono ?_
  rintro e t5 ⟨⟨b5, a5, n5, c5, X5, rfl, rfl, N5⟩, g5⟩
  have HC5 := hide (block_upW g5 HC1.out)
  have HG5 := hide (bl_trans8 HG.out g5)
  have HAN := yanswer_any b5 a5 c5 X5 RM RE t5 N5 (HT.out.below HG5.out) hRE.1 hRE.2 (Nat.le_trans (N5.len 17592186044416 (by have := HRB.out; omega)) (by omega))
  clear HRR g5 N5 HC1 HG m0 m1 m2 hf1
  go_wp2_with fail
  refine HAN.mono ?_
  rintro e t6 ⟨⟨b6, a6, n6, c6, e6, r6, rfl, hdr⟩, g6⟩
  have HC1 := hide (block_upW g6 HC5.out)
  have HG := hide (bl_trans8 HG5.out g6)
  have HDR := hide (hdr.base HG5.out.size)
  have hf1 := tri8f HC1.out
  obtain ⟨m0, m1, m2⟩ := tri8 HC1.out
  clear hdr g6 HAN HC5
  go_wp2
  have T3 := tri8_all HC1.out (.bool b6) (.slice a6 n6 c6) (.int .i64 e6)
  have T4 := below_tri8 HG.out (show w.heap.size ≤ w.heap.size + 1 by omega) (.bool b6) (.slice a6 n6 c6) (.int .i64 e6)
  have T5 := HDR.out.tri8 HC1.out (by decide) (.bool b6) (.slice a6 n6 c6) (.int .i64 e6)
  obtain ⟨p0, p1, p2⟩ := tri8 T3
  have HE := hide (And.intro T5 T4)
  clear T3 T4 T5
  generalize ((t6.setCell ⟨w.heap.size + 1, 0, none⟩ (.bool b6)).setCell ⟨w.heap.size + 1, 1, none⟩ (.slice a6 n6 c6)).setCell ⟨w.heap.size + 1, 2, none⟩ (.int .i64 e6) = w5 at *
  refine bodyPost_ret (v := .tuple #[.agg #[.bool b6, .slice a6 n6 c6, .int .i64 e6], .int .i64 r6]) (by simp [results, Tryz.results86, go_sem, p0, p1, p2]) rfl ?_
  exact ⟨⟨_, _, _, _, _, _, rfl, HE.out.1⟩, HE.out.2⟩

end Go.Proofs.YtolebfnkmjmfnaaGreatDoor

namespace Go.Proofs.YtolebfnkmjmfnaaGreatDoor
open Go.RowKit
open Lm

/-- A number that a call may answer. -/
def Ok8 (L : Nat) (V : Int) : Prop := ∃ M E, Rp L M E V ∧ Nr8 M E ∧ blen M.natAbs ≤ 67108864 ∧ fitE E = true

/-- What is answered for sure. -/
def S8 (w : World) (e : Ending) (w' : World) (L : Nat) (V : Int) : Prop :=
  (∃ b a n k ex, e = .returned (.tuple #[.agg #[.bool b, .slice a n k, .int .i64 ex], .int .i64 0]) ∧ G8 w' b a n k ex L V) ∧ Below w.heap.size w w'

theorem DRes.s8 {w w' : World} {e : Ending} {base : Nat} {M E : Int} {L : Nat} {V : Int} (h : DRes w' base e M E) (hr : Rp L M E V) (hn : Nr8 M E) (ho : Ok8 L V) (hb : Below w.heap.size w w') : S8 w e w' L V := by
  obtain ⟨M', E', r', n', l', f'⟩ := ho
  obtain ⟨rfl, rfl⟩ := Rp.one hr r' hn n'
  obtain ⟨⟨b, a, n, k, ex, c, he, hp⟩, _⟩ := h.a8 hr hn hb
  obtain ⟨b2, a2, n2, k2, ex2, c2, he2, rs, hA, hc⟩ := h
  have hc2 : c2 = 0 := by
    rcases hc with ⟨h, _⟩ | ⟨_, _, _, _, _, h⟩ | ⟨_, _, _, _, _, _, h⟩
    · exact h
    · omega
    · rw [f'] at h; cases h
  rw [he2] at he
  have e9 : c = 0 := by
    simp only [Ending.returned.injEq, Value.tuple.injEq] at he
    have := congrArg (fun (x : Array Value) => x.toList) he
    simp at this
    omega
  subst e9
  exact ⟨⟨b, a, n, k, ex, by rw [he2, he], hp rfl⟩, hb⟩

theorem yround8s (b1 : Bool) (a1 : Option Addr) (n1 k1 : Nat) (ex1 : Int) (L : Nat) (V1 pos m : Int) (w : World) (hT : Tab w) (h1 : G8 w b1 a1 n1 k1 ex1 L V1) (hL : 4611686018427387904 ≤ L) (hK : fitE pos = true) (hM : isM m = true) (ho : Ok8 L (rv m V1 (2 ^ (pos + L).toNat))) :
    Calls Tryz.prog 86 #[.agg #[.bool b1, .slice a1 n1 k1, .int .i64 ex1], .int .i64 pos, .int .i64 m] w fun e w' => S8 w e w' L (rv m V1 (2 ^ (pos + L).toNat)) := by
  obtain ⟨X, rfl, hA, hf, hX, _, _, _, hE1⟩ := h1
  have hp := (fitE_iff pos).1 hK
  exact (yround_ok b1 a1 k1 X ex1 pos m w hA hT (by omega) hE1 hK hM).mono fun e w' h => DRes.s8 h.1 (rnd_rv hX.norm (nr8_of _ _) (by omega) ((isM_iff m).1 hM)).norm (nr8_of _ _) ho h.2

end Go.Proofs.YtolebfnkmjmfnaaGreatDoor

namespace Go.Proofs.YtolebfnkmjmfnaaGreatDoor
open Go.RowKit
open Lm
attribute [local go_sem ↓] Go.wp_at_zero Go.wp_at_succ

theorem hexa {w : World} {g : Nat} {a b c d e f : Value} {t : TypeId} (h : w.heap[g]? = some (.cells #[a, b, c, d, e, f] t)) : w.cell? ⟨g, 0, none⟩ = some a ∧ w.cell? ⟨g, 1, none⟩ = some b ∧ w.cell? ⟨g, 2, none⟩ = some c ∧ w.cell? ⟨g, 3, none⟩ = some d ∧ w.cell? ⟨g, 4, none⟩ = some e ∧ w.cell? ⟨g, 5, none⟩ = some f := by
  refine ⟨?_, ?_, ?_, ?_, ?_, ?_⟩ <;> simp [World.cell?, h]

theorem hexaf {w : World} {g : Nat} {a b c d e f : Value} {t : TypeId} (h : w.heap[g]? = some (.cells #[a, b, c, d, e, f] t)) : ∀ k, w.frozen? ⟨g, k, none⟩ = false := fun k => by simp [World.frozen?, h]

theorem hexa_all {w : World} {g : Nat} {a b c d e f : Value} {t : TypeId} (h : w.heap[g]? = some (.cells #[a, b, c, d, e, f] t)) (u0 u1 u2 u3 u4 u5 : Value) : ((((((w.setCell ⟨g, 0, none⟩ u0).setCell ⟨g, 1, none⟩ u1).setCell ⟨g, 2, none⟩ u2).setCell ⟨g, 3, none⟩ u3).setCell ⟨g, 4, none⟩ u4).setCell ⟨g, 5, none⟩ u5).heap[g]? = some (.cells #[u0, u1, u2, u3, u4, u5] t) :=
  box_modify (box_modify (box_modify (box_modify (box_modify (box_modify h u0) u1) u2) u3) u4) u5

theorem below_hexa {B : Nat} {w0 w : World} {g : Nat} (h : Below B w0 w) (hg : B ≤ g) (u0 u1 u2 u3 u4 u5 : Value) : Below B w0 ((((((w.setCell ⟨g, 0, none⟩ u0).setCell ⟨g, 1, none⟩ u1).setCell ⟨g, 2, none⟩ u2).setCell ⟨g, 3, none⟩ u3).setCell ⟨g, 4, none⟩ u4).setCell ⟨g, 5, none⟩ u5) :=
  (((((h.setCell (p := ⟨g, 0, none⟩) hg u0).setCell (p := ⟨g, 1, none⟩) hg u1).setCell (p := ⟨g, 2, none⟩) hg u2).setCell (p := ⟨g, 3, none⟩) hg u3).setCell (p := ⟨g, 4, none⟩) hg u4).setCell (p := ⟨g, 5, none⟩) hg u5

theorem Lies.boxH {w : World} {ao : Option Addr} {zs : List Nat} {g o : Nat} {p : Bool} {a : Option Addr} {n c : Nat} {e : Int} {p' : Bool} {a' : Option Addr} {n' c' : Nat} {e' : Int} {t : TypeId} {u : Value} (h : Lies w ao zs) (hl : w.heap[g]? = some (.cells #[.bool p, .slice a n c, .int .i64 e, .bool p', .slice a' n' c', .int .i64 e'] t)) : Lies (w.setCell ⟨g, o, none⟩ u) ao zs := by
  rcases h with h | ⟨b, off, rfl, hc⟩
  · exact .inl h
  · rcases Nat.eq_zero_or_pos zs.length with h0 | h0
    · exact .inl (List.eq_nil_of_length_eq_zero h0)
    · refine .inr ⟨b, off, rfl, fun k hk => ?_⟩
      rw [cell_other8]
      · exact hc k hk
      · rintro rfl
        have h1 := hc 0 h0
        rw [Nat.add_zero] at h1
        simp only [World.cell?, hl] at h1
        match off, h1 with
        | 0, h1 => simp at h1
        | 1, h1 => simp at h1
        | 2, h1 => simp at h1
        | 3, h1 => simp at h1
        | 4, h1 => simp at h1
        | 5, h1 => simp at h1
        | k + 6, h1 => simp at h1

theorem Arg.boxH {w : World} {v : Value} {zs : List Nat} {g o : Nat} {p : Bool} {a : Option Addr} {n c : Nat} {e : Int} {p' : Bool} {a' : Option Addr} {n' c' : Nat} {e' : Int} {t : TypeId} {u : Value} (h : Arg w v zs) (hl : w.heap[g]? = some (.cells #[.bool p, .slice a n c, .int .i64 e, .bool p', .slice a' n' c', .int .i64 e'] t)) : Arg (w.setCell ⟨g, o, none⟩ u) v zs := by
  obtain ⟨ao, cap, h1, h2, h3, h4⟩ := h.form
  exact ⟨⟨ao, cap, h1, h2, h3, h4.boxH hl⟩, h.limbs, h.few, h.nz⟩

/-- A span's box written. -/
theorem Arg.hexa {w : World} {v : Value} {zs : List Nat} {g : Nat} {p : Bool} {a : Option Addr} {n c : Nat} {e : Int} {p' : Bool} {a' : Option Addr} {n' c' : Nat} {e' : Int} {t : TypeId} (h : Arg w v zs) (hl : w.heap[g]? = some (.cells #[.bool p, .slice a n c, .int .i64 e, .bool p', .slice a' n' c', .int .i64 e'] t)) (b1 : Bool) (a1 : Option Addr) (n1 c1 : Nat) (e1 : Int) (b2 : Bool) (a2 : Option Addr) (n2 c2 : Nat) (e2 : Int) :
    Arg ((((((w.setCell ⟨g, 0, none⟩ (.bool b1)).setCell ⟨g, 1, none⟩ (.slice a1 n1 c1)).setCell ⟨g, 2, none⟩ (.int .i64 e1)).setCell ⟨g, 3, none⟩ (.bool b2)).setCell ⟨g, 4, none⟩ (.slice a2 n2 c2)).setCell ⟨g, 5, none⟩ (.int .i64 e2)) v zs := by
  have h1 := h.boxH (o := 0) (u := .bool b1) hl
  have l1 := box_modify (k := 0) hl (.bool b1)
  have h2 := h1.boxH (o := 1) (u := .slice a1 n1 c1) l1
  have l2 := box_modify (k := 1) l1 (.slice a1 n1 c1)
  have h3 := h2.boxH (o := 2) (u := .int .i64 e1) l2
  have l3 := box_modify (k := 2) l2 (.int .i64 e1)
  have h4 := h3.boxH (o := 3) (u := .bool b2) l3
  have l4 := box_modify (k := 3) l3 (.bool b2)
  have h5 := h4.boxH (o := 4) (u := .slice a2 n2 c2) l4
  have l5 := box_modify (k := 4) l4 (.slice a2 n2 c2)
  exact h5.boxH (o := 5) (u := .int .i64 e2) l5

theorem G8.hexa {w : World} {b : Bool} {a0 : Option Addr} {n0 k0 : Nat} {ex : Int} {L : Nat} {V : Int} {g : Nat} {p : Bool} {a : Option Addr} {n c : Nat} {e : Int} {p' : Bool} {a' : Option Addr} {n' c' : Nat} {e' : Int} {t : TypeId} (h : G8 w b a0 n0 k0 ex L V) (hl : w.heap[g]? = some (.cells #[.bool p, .slice a n c, .int .i64 e, .bool p', .slice a' n' c', .int .i64 e'] t)) (b1 : Bool) (a1 : Option Addr) (n1 c1 : Nat) (e1 : Int) (b2 : Bool) (a2 : Option Addr) (n2 c2 : Nat) (e2 : Int) :
    G8 ((((((w.setCell ⟨g, 0, none⟩ (.bool b1)).setCell ⟨g, 1, none⟩ (.slice a1 n1 c1)).setCell ⟨g, 2, none⟩ (.int .i64 e1)).setCell ⟨g, 3, none⟩ (.bool b2)).setCell ⟨g, 4, none⟩ (.slice a2 n2 c2)).setCell ⟨g, 5, none⟩ (.int .i64 e2)) b a0 n0 k0 ex L V := by
  obtain ⟨rs, h1, h2, h3⟩ := h
  exact ⟨rs, h1, h2.hexa hl b1 a1 n1 c1 e1 b2 a2 n2 c2 e2, h3⟩

theorem G8.tri9 {w : World} {b : Bool} {a0 : Option Addr} {n0 k0 : Nat} {ex : Int} {L : Nat} {V : Int} {g : Nat} {p : Bool} {a : Option Addr} {n c : Nat} {e : Int} {t : TypeId} (h : G8 w b a0 n0 k0 ex L V) (hl : w.heap[g]? = some (.cells #[.bool p, .slice a n c, .int .i64 e] t)) (b1 : Bool) (a1 : Option Addr) (n1 c1 : Nat) (e1 : Int) :
    G8 (((w.setCell ⟨g, 0, none⟩ (.bool b1)).setCell ⟨g, 1, none⟩ (.slice a1 n1 c1)).setCell ⟨g, 2, none⟩ (.int .i64 e1)) b a0 n0 k0 ex L V := by
  obtain ⟨rs, h1, h2, h3⟩ := h
  exact ⟨rs, h1, h2.tri8 hl b1 a1 n1 c1 _, h3⟩

/-- Add, answered for sure. -/
theorem yadd8s (b1 : Bool) (a1 : Option Addr) (n1 k1 : Nat) (ex1 : Int) (b2 : Bool) (a2 : Option Addr) (n2 k2 : Nat) (ex2 : Int) (L : Nat) (V1 V2 : Int) (w : World) (hT : Tab w) (h1 : I8 w b1 a1 n1 k1 ex1 L V1) (h2 : I8 w b2 a2 n2 k2 ex2 L V2) (hE1 : fitE ex1 = true) (hE2 : fitE ex2 = true) (ho : Ok8 L (V1 + V2)) :
    Calls Tryz.prog 96 #[.agg #[.bool b1, .slice a1 n1 k1, .int .i64 ex1], .agg #[.bool b2, .slice a2 n2 k2, .int .i64 ex2]] w fun e w' => S8 w e w' L (V1 + V2) := by
  obtain ⟨X, rfl, hA, hf, hX⟩ := h1
  obtain ⟨Y, rfl, hB, hg, hY⟩ := h2
  have F1 := read_facts (b := b1) (ex := ex1) hA hf hE1
  have F2 := read_facts (b := b2) (ex := ex2) hB hg hE2
  refine (yadd_res b1 a1 _ k1 ex1 b2 a2 _ k2 ex2 _ _ w (fun W hg' => yjp_ok b1 a1 k1 X ex1 b2 a2 k2 Y ex2 _ _ W (hT.below hg') (hA.below hg') (hB.below hg') hf hg hE1 hE2 (fun W2 b3 a3 c3 X3 b4 a4 c4 X4 t3 m3 m4 l3 l4 => yplus_any b3 a3 c3 X3 _ _ b4 a4 c4 X4 _ _ W2 m3 m4 F1.2.2.2 F2.2.2.2 l3 l4 F1.2.1 F2.2.2.1 F2.2.1 F1.2.2.1))).mono fun e w' h => DRes.s8 h.1 (Rp.add hX.norm hY.norm).norm (nr8_of _ _) ho h.2

set_option maxRecDepth 20000 in
set_option maxHeartbeats 1000000 in
/-- The laws' small. -/
theorem small_any (k : Nat) (L : Nat) (w : World) (h0 : k < 9223372036854775808) :
    Calls Tryz.prog 37 #[.int .i64 (k : Int)] w fun e w' => (∃ a n c, e = .returned (.agg #[.bool false, .slice a n c, .int .i64 0]) ∧ I8 w' false a n c 0 L ((k : Int) * 2 ^ L)) ∧ Below w.heap.size w w' := by
  obtain ⟨w0, hw0, hb0, h0'⟩ := enter1 w (.cells #[.bool false, .slice none 0 0, .int .i64 0] 31)
  obtain ⟨w1, hw1, hb1, h1⟩ := enter1 w0 (.cells #[.int .u64 (k : Int)] 101)
  have hA := Arg.lits w0 [k] #[.int .u64 (k : Int)] 1 rfl rfl (by intro z hz; simp at hz; omega) (by simp)
  rw [hw1] at hA
  have HC := hide (block_upW hb1 h0')
  have HG := hide (bl_trans8 hb0 hb1)
  have HA := hide hA
  have wk : IntKind.u64.wrap (k : Int) = (k : Int) := by rw [IntKind.wrap_u64]; omega
  have hf1 := tri8f HC.out
  obtain ⟨m0, m1, m2⟩ := tri8 HC.out
  clear hA hb0 hb1 h0' h1
  go_enter Tryz.func37, Tryz.ntmps37
  go_wp2
  have T3 := tri8_all HC.out (.bool false) (.slice (some ⟨w0.heap.size, 0, none⟩) 1 1) (.int .i64 0)
  have T4 := below_tri8 HG.out (Nat.le_refl _) (.bool false) (.slice (some ⟨w0.heap.size, 0, none⟩) 1 1) (.int .i64 0)
  have T5 := HA.out.tri8 HC.out false (some ⟨w0.heap.size, 0, none⟩) 1 1 (.int .i64 0)
  obtain ⟨p0, p1, p2⟩ := tri8 T3
  have HE := hide (And.intro T5 T4)
  clear T3 T4 T5
  generalize ((w1.setCell ⟨w.heap.size, 0, none⟩ (.bool false)).setCell ⟨w.heap.size, 1, none⟩ (.slice (some ⟨w0.heap.size, 0, none⟩) 1 1)).setCell ⟨w.heap.size, 2, none⟩ (.int .i64 0) = w5 at *
  refine bodyPost_ret (v := .agg #[.bool false, .slice (some ⟨w0.heap.size, 0, none⟩) 1 1, .int .i64 0]) (by simp [results, Tryz.results37, go_sem, p0, p1, p2]) rfl ?_
  refine ⟨⟨_, _, _, rfl, [k], rfl, HE.out.1, by simp, ⟨by omega, ?_⟩⟩, HE.out.2⟩
  rw [show ((0 : Int) + (L : Int)).toNat = L by omega, show zz false (val [k]) = (k : Int) by simp [zz, val]]

end Go.Proofs.YtolebfnkmjmfnaaGreatDoor

namespace Go.Proofs.YtolebfnkmjmfnaaGreatDoor
open Go.RowKit
open Lm
attribute [local go_sem ↓] Go.wp_at_zero Go.wp_at_succ

end Go.Proofs.YtolebfnkmjmfnaaGreatDoor

namespace Go.Proofs.YtolebfnkmjmfnaaGreatDoor
open Go.RowKit
open Lm
attribute [local go_sem ↓] Go.wp_at_zero Go.wp_at_succ

set_option maxRecDepth 20000 in
set_option maxHeartbeats 1000000 in
theorem refusal_ok (g : Nat) (w : World) (hL : w.heap[g]? = some (.cells #[.int .i64 0, .int .i64 0] 46)) :
    Calls Tryz.prog 31 #[.slice (some ⟨g, 0, none⟩) 2 2] w fun e w' => e = .returned (.int .i64 0) ∧ w' = w := by
  have HL := hide hL
  obtain ⟨c0, c1⟩ := duo hL
  clear hL
  go_enter Tryz.func31, Tryz.ntmps31
  go_wp2
  go_loop [3, 8] (fun t i => ∃ k : Nat, k ≤ 2 ∧ t = .int .i64 0 ∧ i = .int .i64 k) (fun _ i => 2 - (intOf i).toNat)
  case atStart => exact ⟨0, by omega, rfl, rfl⟩
  case round =>
    obtain ⟨k, hk, rfl, rfl⟩ := hrel
    by_cases hkl : k < 2
    · have hck : w.cell? ⟨g, k, none⟩ = some (.int .i64 0) := by
        rcases (show k = 0 ∨ k = 1 by omega) with rfl | rfl
        · exact c0
        · exact c1
      clear c0 c1
      go_wp2
      go_round
      case rel => exact ⟨k + 1, by omega, rfl, by go_num⟩
      case measure => simp [intOf]; omega
    · go_wp2
      go_ret
      exact ⟨rfl, rfl⟩

theorem sisPos_any (n : Int) (w : World) (h : fitE n = true) : Calls Tryz.prog 61 #[.int .i64 n] w fun e w' => e = .returned (.bool true) ∧ w' = w := by
  have hr := (fitE_iff n).1 h
  have h1 : decide (-1099511627776 ≤ n) = true := decide_eq_true hr.1
  have h2 : decide (n ≤ 1099511627776) = true := decide_eq_true hr.2
  go_enter Tryz.func61, Tryz.ntmps61
  go_wp2
  go_ret
  exact ⟨rfl, rfl⟩

set_option maxRecDepth 20000 in
set_option maxHeartbeats 1000000 in
/-- The closure of sums. -/
theorem sumsF (b1 : Bool) (a1 : Option Addr) (n1 k1 : Nat) (ex1 : Int) (b2 : Bool) (a2 : Option Addr) (n2 k2 : Nat) (ex2 : Int) (md : Int) (L : Nat) (V1 V2 : Int) (w : World) (hT : Tab w) (h1 : I8 w b1 a1 n1 k1 ex1 L V1) (h2 : I8 w b2 a2 n2 k2 ex2 L V2) (hE1 : fitE ex1 = true) (hE2 : fitE ex2 = true) (ho : Ok8 L (V1 + V2)) :
    Calls Tryz.prog 95 #[.agg #[.bool b1, .slice a1 n1 k1, .int .i64 ex1, .bool b2, .slice a2 n2 k2, .int .i64 ex2], .int .i64 md] w fun e w' => S8 w e w' L (V1 + V2) := by
  obtain ⟨w0, hw0, hb0, q0, q1⟩ := enter2 w (.cells #[.bool b1, .slice a1 n1 k1, .int .i64 ex1, .bool b2, .slice a2 n2 k2, .int .i64 ex2] 147) (.cells #[.bool false, .slice none 0 0, .int .i64 0] 31)
  obtain ⟨k0, k1', k2', k3', k4', k5'⟩ := hexa q0
  have C := yadd8s b1 a1 n1 k1 ex1 b2 a2 n2 k2 ex2 L V1 V2 w0 (hT.below hb0) (h1.below hb0) (h2.below hb0) hE1 hE2 ho
  have HC := hide q1
  have HB := hide hb0
  generalize V1 + V2 = V at *
  clear q0 q1 hb0 hT h1 h2 ho
  go_enter Tryz.func95, Tryz.ntmps95
  go_wp2_with fail
  refine C.mono ?_
  rintro e t1 ⟨⟨b6, a6, n6, c6, e6, rfl, hg⟩, g1⟩
  have HC1 := hide (block_upW g1 HC.out)
  have HG := hide (bl_trans8 HB.out g1)
  have HDR := hide hg
  have hf1 := tri8f HC1.out
  obtain ⟨m0, m1, m2⟩ := tri8 HC1.out
  clear g1 hg C
  go_wp2
  have T3 := tri8_all HC1.out (.bool b6) (.slice a6 n6 c6) (.int .i64 e6)
  have T4 := below_tri8 HG.out (show w.heap.size ≤ w.heap.size + 1 by omega) (.bool b6) (.slice a6 n6 c6) (.int .i64 e6)
  have T5 := HDR.out.tri9 HC1.out b6 a6 n6 c6 e6
  obtain ⟨p0, p1, p2⟩ := tri8 T3
  have HE := hide (And.intro T5 T4)
  clear T3 T4 T5
  generalize ((t1.setCell ⟨w.heap.size + 1, 0, none⟩ (.bool b6)).setCell ⟨w.heap.size + 1, 1, none⟩ (.slice a6 n6 c6)).setCell ⟨w.heap.size + 1, 2, none⟩ (.int .i64 e6) = w5 at *
  refine bodyPost_ret (v := .tuple #[.agg #[.bool b6, .slice a6 n6 c6, .int .i64 e6], .int .i64 0]) (by simp [results, Tryz.results95, go_sem, p0, p1, p2]) rfl ?_
  exact ⟨⟨_, _, _, _, _, rfl, HE.out.1⟩, HE.out.2⟩

set_option maxRecDepth 20000 in
set_option maxHeartbeats 1000000 in
/-- The closure of outward. -/
theorem outF (gp : Nat) (pos : Int) (b1 : Bool) (a1 : Option Addr) (n1 k1 : Nat) (ex1 : Int) (md : Int) (L : Nat) (V1 : Int) (w : World) (hp : w.heap[gp]? = some (.cells #[.int .i64 pos] 3)) (hT : Tab w) (h1 : G8 w b1 a1 n1 k1 ex1 L V1) (hL : 4611686018427387904 ≤ L) (hK : fitE pos = true) (hM : isM md = true) (ho : Ok8 L (rv md V1 (2 ^ (pos + L).toNat))) :
    Calls Tryz.prog 136 #[.agg #[.bool b1, .slice a1 n1 k1, .int .i64 ex1], .int .i64 md, .pointer (some ⟨gp, 0, none⟩)] w fun e w' => S8 w e w' L (rv md V1 (2 ^ (pos + L).toNat)) := by
  obtain ⟨w0, hw0, hb0, q0, q1⟩ := enter2 w (.cells #[.bool b1, .slice a1 n1 k1, .int .i64 ex1] 31) (.cells #[.bool false, .slice none 0 0, .int .i64 0] 31)
  obtain ⟨k0, k1', k2'⟩ := tri8 q0
  have kp : w0.cell? ⟨gp, 0, none⟩ = some (.int .i64 pos) := by have := block_upW hb0 hp; simp [World.cell?, this]
  have C := yround8s b1 a1 n1 k1 ex1 L V1 pos md w0 (hT.below hb0) (h1.below hb0) hL hK hM ho
  have HC := hide q1
  have HB := hide hb0
  generalize rv md V1 (2 ^ (pos + L).toNat) = V at *
  clear q0 q1 hb0 hT h1 ho hp
  go_enter Tryz.func136, Tryz.ntmps136
  go_wp2_with fail
  refine C.mono ?_
  rintro e t1 ⟨⟨b6, a6, n6, c6, e6, rfl, hg⟩, g1⟩
  have HC1 := hide (block_upW g1 HC.out)
  have HG := hide (bl_trans8 HB.out g1)
  have HDR := hide hg
  have hf1 := tri8f HC1.out
  obtain ⟨m0, m1, m2⟩ := tri8 HC1.out
  clear g1 hg C
  go_wp2
  have T3 := tri8_all HC1.out (.bool b6) (.slice a6 n6 c6) (.int .i64 e6)
  have T4 := below_tri8 HG.out (show w.heap.size ≤ w.heap.size + 1 by omega) (.bool b6) (.slice a6 n6 c6) (.int .i64 e6)
  have T5 := HDR.out.tri9 HC1.out b6 a6 n6 c6 e6
  obtain ⟨p0, p1, p2⟩ := tri8 T3
  have HE := hide (And.intro T5 T4)
  clear T3 T4 T5
  generalize ((t1.setCell ⟨w.heap.size + 1, 0, none⟩ (.bool b6)).setCell ⟨w.heap.size + 1, 1, none⟩ (.slice a6 n6 c6)).setCell ⟨w.heap.size + 1, 2, none⟩ (.int .i64 e6) = w5 at *
  refine bodyPost_ret (v := .tuple #[.agg #[.bool b6, .slice a6 n6 c6, .int .i64 e6], .int .i64 0]) (by simp [results, Tryz.results136, go_sem, p0, p1, p2]) rfl ?_
  exact ⟨⟨_, _, _, _, _, rfl, HE.out.1⟩, HE.out.2⟩

/-- A span that was answered. -/
def SS8 (w : World) (e : Ending) (w' : World) (L : Nat) (V1 V2 : Int) : Prop :=
  (∃ b1 a1 n1 k1 e1 b2 a2 n2 k2 e2, e = .returned (.tuple #[.agg #[.bool b1, .slice a1 n1 k1, .int .i64 e1, .bool b2, .slice a2 n2 k2, .int .i64 e2], .int .i64 0]) ∧ G8 w' b1 a1 n1 k1 e1 L V1 ∧ G8 w' b2 a2 n2 k2 e2 L V2) ∧ Below w.heap.size w w'

end Go.Proofs.YtolebfnkmjmfnaaGreatDoor

namespace Go.Proofs.YtolebfnkmjmfnaaGreatDoor
open Go.RowKit
open Lm
attribute [local go_sem ↓] Go.wp_at_zero Go.wp_at_succ

set_option maxRecDepth 20000 in
set_option maxHeartbeats 2000000 in
theorem byP (b1 : Bool) (a1 : Option Addr) (n1 k1 : Nat) (ex1 : Int) (b2 : Bool) (a2 : Option Addr) (n2 k2 : Nat) (ex2 : Int) (b3 : Bool) (a3 : Option Addr) (n3 k3 : Nat) (ex3 : Int) (b4 : Bool) (a4 : Option Addr) (n4 k4 : Nat) (ex4 : Int) (L : Nat) (V1 V2 V3 V4 : Int) (w : World) (hT : Tab w) (h1 : I8 w b1 a1 n1 k1 ex1 L V1) (h2 : I8 w b2 a2 n2 k2 ex2 L V2) (h3 : I8 w b3 a3 n3 k3 ex3 L V3) (h4 : I8 w b4 a4 n4 k4 ex4 L V4) (hE1 : fitE ex1 = true) (hE2 : fitE ex2 = true) (hE3 : fitE ex3 = true) (hE4 : fitE ex4 = true) (ho : Ok8 L (V1 + V2)) (ho2 : Ok8 L (V3 + V4)) :
    Calls Tryz.prog 94 #[.agg #[.bool b1, .slice a1 n1 k1, .int .i64 ex1, .bool b2, .slice a2 n2 k2, .int .i64 ex2], .agg #[.bool b3, .slice a3 n3 k3, .int .i64 ex3, .bool b4, .slice a4 n4 k4, .int .i64 ex4], .func (.func 95) #[] #[]] w fun e w' => SS8 w e w' L (V1 + V2) (V3 + V4) := by
  obtain ⟨w0, hw0, hb0, q0, q1, q9⟩ := enter3 w (.cells #[.bool b1, .slice a1 n1 k1, .int .i64 ex1, .bool b2, .slice a2 n2 k2, .int .i64 ex2] 147) (.cells #[.bool b3, .slice a3 n3 k3, .int .i64 ex3, .bool b4, .slice a4 n4 k4, .int .i64 ex4] 147) (.cells #[.bool false, .slice none 0 0, .int .i64 0, .bool false, .slice none 0 0, .int .i64 0] 33)
  obtain ⟨y0, y1, y2, y3, y4, y5⟩ := hexa q0
  have HU0 := hide hb0
  have HQ0 := hide q1
  have HR0 : Hid (w0.heap[w.heap.size + 1 + 1]? = some (.cells #[.bool false, .slice none 0 0, .int .i64 0, .bool false, .slice none 0 0, .int .i64 0] 33)) := hide q9
  have C1 := hide (fun (W : World) (hg : Below w.heap.size w W) => sumsF b1 a1 n1 k1 ex1 b2 a2 n2 k2 ex2 0 L V1 V2 W (hT.below hg) (h1.below hg) (h2.below hg) hE1 hE2 ho)
  have C2 := hide (fun (W : World) (hg : Below w.heap.size w W) => sumsF b3 a3 n3 k3 ex3 b4 a4 n4 k4 ex4 1 L V3 V4 W (hT.below hg) (h3.below hg) (h4.below hg) hE3 hE4 ho2)
  generalize V1 + V2 = VA at *
  generalize V3 + V4 = VB at *
  clear q0 q1 q9 hb0 hT h1 h2 h3 h4 ho ho2
  go_enter Tryz.func94, Tryz.ntmps94
  go_wp2_with fail
  refine (C1.out w0 HU0.out).mono ?_
  rintro e t1 ⟨⟨b6, a6, n6, c6, e6, rfl, hg⟩, g1⟩
  obtain ⟨w2, hw2, hb2, q2⟩ := enter1 t1 (.cells #[.bool b6, .slice a6 n6 c6, .int .i64 e6] 31)
  have s2 := bl_trans8 g1 hb2
  have HU2 := hide (bl_trans8 HU0.out s2)
  have HX2 := hide q2
  have HD1 := hide (hg.below hb2)
  have HQ1 := hide (block_upW s2 HQ0.out)
  have HR1 := hide (block_upW s2 HR0.out)
  clear g1 hg hb2 q2 s2 y0 y1 y2 y3 y4 y5 hw0
  obtain ⟨z0, z1, z2, z3, z4, z5⟩ := hexa HQ1.out
  go_wp2_with fail
  refine (C2.out w2 HU2.out).mono ?_
  rintro e t3 ⟨⟨b7, a7, n7, c7, e7, rfl, hg⟩, g1⟩
  obtain ⟨w4, hw4, hb4, q4⟩ := enter1 t3 (.cells #[.bool b7, .slice a7 n7 c7, .int .i64 e7] 31)
  obtain ⟨w6, hw6, hb6, q6⟩ := enter1 w4 (.cells #[.int .i64 0, .int .i64 0] 46)
  have s4 := bl_trans8 (bl_trans8 g1 hb4) hb6
  have HG := hide (bl_trans8 HU2.out s4)
  have HX4 := hide (block_upW s4 HX2.out)
  have HX5 := hide (block_upW hb6 q4)
  have HD3 := hide (HD1.out.below s4)
  have HD2 := hide ((hg.below hb4).below hb6)
  have HC1 := hide (block_upW s4 HR1.out)
  have RF := refusal_ok w4.heap.size w6 q6
  clear g1 hg hb4 q4 s4 z0 z1 z2 z3 z4 z5 hw2 HD1 hb6 q6
  have HD1 := HD3
  go_wp2_with fail
  refine RF.mono ?_
  rintro e wn ⟨rfl, hw⟩; rw [hw]; clear hw wn RF
  obtain ⟨x0, x1, x2⟩ := tri8 HX4.out
  obtain ⟨x3, x4, x5⟩ := tri8 HX5.out
  have hf1 := hexaf HC1.out
  obtain ⟨m0, m1, m2, m3, m4, m5⟩ := hexa HC1.out
  go_wp2
  have T3 := hexa_all HC1.out (.bool b6) (.slice a6 n6 c6) (.int .i64 e6) (.bool b7) (.slice a7 n7 c7) (.int .i64 e7)
  have T4 := below_hexa HG.out (show w.heap.size ≤ w.heap.size + 1 + 1 by omega) (.bool b6) (.slice a6 n6 c6) (.int .i64 e6) (.bool b7) (.slice a7 n7 c7) (.int .i64 e7)
  have T5 := HD1.out.hexa HC1.out b6 a6 n6 c6 e6 b7 a7 n7 c7 e7
  have T6 := HD2.out.hexa HC1.out b6 a6 n6 c6 e6 b7 a7 n7 c7 e7
  obtain ⟨p0, p1, p2, p3, p4, p5⟩ := hexa T3
  have HE := hide (And.intro T5 (And.intro T6 T4))
  clear T3 T4 T5 T6
  generalize (((((w6.setCell ⟨w.heap.size + 1 + 1, 0, none⟩ (.bool b6)).setCell ⟨w.heap.size + 1 + 1, 1, none⟩ (.slice a6 n6 c6)).setCell ⟨w.heap.size + 1 + 1, 2, none⟩ (.int .i64 e6)).setCell ⟨w.heap.size + 1 + 1, 3, none⟩ (.bool b7)).setCell ⟨w.heap.size + 1 + 1, 4, none⟩ (.slice a7 n7 c7)).setCell ⟨w.heap.size + 1 + 1, 5, none⟩ (.int .i64 e7) = w5 at *
  refine bodyPost_ret (v := .tuple #[.agg #[.bool b6, .slice a6 n6 c6, .int .i64 e6, .bool b7, .slice a7 n7 c7, .int .i64 e7], .int .i64 0]) (by simp [results, Tryz.results94, go_sem, p0, p1, p2, p3, p4, p5]) rfl ?_
  exact ⟨⟨_, _, _, _, _, _, _, _, _, _, rfl, HE.out.1, HE.out.2.1⟩, HE.out.2.2⟩

set_option maxRecDepth 20000 in
set_option maxHeartbeats 2000000 in
theorem byD (gp : Nat) (pos : Int) (b1 : Bool) (a1 : Option Addr) (n1 k1 : Nat) (ex1 : Int) (b3 : Bool) (a3 : Option Addr) (n3 k3 : Nat) (ex3 : Int) (L : Nat) (V1 V3 : Int) (w : World) (hp : w.heap[gp]? = some (.cells #[.int .i64 pos] 3)) (hT : Tab w) (h1 : G8 w b1 a1 n1 k1 ex1 L V1) (h3 : G8 w b3 a3 n3 k3 ex3 L V3) (hL : 4611686018427387904 ≤ L) (hK : fitE pos = true) (ho : Ok8 L (rv 0 V1 (2 ^ (pos + L).toNat))) (ho2 : Ok8 L (rv 1 V3 (2 ^ (pos + L).toNat))) :
    Calls Tryz.prog 89 #[.agg #[.bool b1, .slice a1 n1 k1, .int .i64 ex1], .agg #[.bool b3, .slice a3 n3 k3, .int .i64 ex3], .func (.func 136) #[] #[.pointer (some ⟨gp, 0, none⟩)]] w fun e w' => SS8 w e w' L (rv 0 V1 (2 ^ (pos + L).toNat)) (rv 1 V3 (2 ^ (pos + L).toNat)) := by
  obtain ⟨w0, hw0, hb0, q0, q1, q9⟩ := enter3 w (.cells #[.bool b1, .slice a1 n1 k1, .int .i64 ex1] 31) (.cells #[.bool b3, .slice a3 n3 k3, .int .i64 ex3] 31) (.cells #[.bool false, .slice none 0 0, .int .i64 0, .bool false, .slice none 0 0, .int .i64 0] 33)
  obtain ⟨y0, y1, y2⟩ := tri8 q0
  have HU0 := hide hb0
  have HQ0 := hide q1
  have HR0 : Hid (w0.heap[w.heap.size + 1 + 1]? = some (.cells #[.bool false, .slice none 0 0, .int .i64 0, .bool false, .slice none 0 0, .int .i64 0] 33)) := hide q9
  have C1 := hide (fun (W : World) (hg : Below w.heap.size w W) => outF gp pos b1 a1 n1 k1 ex1 0 L V1 W (block_upW hg hp) (hT.below hg) (h1.below hg) hL hK (by decide) ho)
  have C2 := hide (fun (W : World) (hg : Below w.heap.size w W) => outF gp pos b3 a3 n3 k3 ex3 1 L V3 W (block_upW hg hp) (hT.below hg) (h3.below hg) hL hK (by decide) ho2)
  generalize rv 0 V1 (2 ^ (pos + L).toNat) = VA at *
  generalize rv 1 V3 (2 ^ (pos + L).toNat) = VB at *
  clear q0 q1 q9 hb0 hT h1 h3 ho ho2 hp
  go_enter Tryz.func89, Tryz.ntmps89
  go_wp2_with fail
  refine (C1.out w0 HU0.out).mono ?_
  rintro e t1 ⟨⟨b6, a6, n6, c6, e6, rfl, hg⟩, g1⟩
  obtain ⟨w2, hw2, hb2, q2⟩ := enter1 t1 (.cells #[.bool b6, .slice a6 n6 c6, .int .i64 e6] 31)
  have s2 := bl_trans8 g1 hb2
  have HU2 := hide (bl_trans8 HU0.out s2)
  have HX2 := hide q2
  have HD1 := hide (hg.below hb2)
  have HQ1 := hide (block_upW s2 HQ0.out)
  have HR1 := hide (block_upW s2 HR0.out)
  clear g1 hg hb2 q2 s2 y0 y1 y2 hw0
  obtain ⟨z0, z1, z2⟩ := tri8 HQ1.out
  go_wp2_with fail
  refine (C2.out w2 HU2.out).mono ?_
  rintro e t3 ⟨⟨b7, a7, n7, c7, e7, rfl, hg⟩, g1⟩
  obtain ⟨w4, hw4, hb4, q4⟩ := enter1 t3 (.cells #[.bool b7, .slice a7 n7 c7, .int .i64 e7] 31)
  obtain ⟨w6, hw6, hb6, q6⟩ := enter1 w4 (.cells #[.int .i64 0, .int .i64 0] 46)
  have s4 := bl_trans8 (bl_trans8 g1 hb4) hb6
  have HG := hide (bl_trans8 HU2.out s4)
  have HX4 := hide (block_upW s4 HX2.out)
  have HX5 := hide (block_upW hb6 q4)
  have HD3 := hide (HD1.out.below s4)
  have HD2 := hide ((hg.below hb4).below hb6)
  have HC1 := hide (block_upW s4 HR1.out)
  have RF := refusal_ok w4.heap.size w6 q6
  clear g1 hg hb4 q4 s4 z0 z1 z2 hw2 HD1 hb6 q6
  have HD1 := HD3
  go_wp2_with fail
  refine RF.mono ?_
  rintro e wn ⟨rfl, hw⟩; rw [hw]; clear hw wn RF
  obtain ⟨x0, x1, x2⟩ := tri8 HX4.out
  obtain ⟨x3, x4, x5⟩ := tri8 HX5.out
  have hf1 := hexaf HC1.out
  obtain ⟨m0, m1, m2, m3, m4, m5⟩ := hexa HC1.out
  go_wp2
  have T3 := hexa_all HC1.out (.bool b6) (.slice a6 n6 c6) (.int .i64 e6) (.bool b7) (.slice a7 n7 c7) (.int .i64 e7)
  have T4 := below_hexa HG.out (show w.heap.size ≤ w.heap.size + 1 + 1 by omega) (.bool b6) (.slice a6 n6 c6) (.int .i64 e6) (.bool b7) (.slice a7 n7 c7) (.int .i64 e7)
  have T5 := HD1.out.hexa HC1.out b6 a6 n6 c6 e6 b7 a7 n7 c7 e7
  have T6 := HD2.out.hexa HC1.out b6 a6 n6 c6 e6 b7 a7 n7 c7 e7
  obtain ⟨p0, p1, p2, p3, p4, p5⟩ := hexa T3
  have HE := hide (And.intro T5 (And.intro T6 T4))
  clear T3 T4 T5 T6
  generalize (((((w6.setCell ⟨w.heap.size + 1 + 1, 0, none⟩ (.bool b6)).setCell ⟨w.heap.size + 1 + 1, 1, none⟩ (.slice a6 n6 c6)).setCell ⟨w.heap.size + 1 + 1, 2, none⟩ (.int .i64 e6)).setCell ⟨w.heap.size + 1 + 1, 3, none⟩ (.bool b7)).setCell ⟨w.heap.size + 1 + 1, 4, none⟩ (.slice a7 n7 c7)).setCell ⟨w.heap.size + 1 + 1, 5, none⟩ (.int .i64 e7) = w5 at *
  refine bodyPost_ret (v := .tuple #[.agg #[.bool b6, .slice a6 n6 c6, .int .i64 e6, .bool b7, .slice a7 n7 c7, .int .i64 e7], .int .i64 0]) (by simp [results, Tryz.results89, go_sem, p0, p1, p2, p3, p4, p5]) rfl ?_
  exact ⟨⟨_, _, _, _, _, _, _, _, _, _, rfl, HE.out.1, HE.out.2.1⟩, HE.out.2.2⟩

end Go.Proofs.YtolebfnkmjmfnaaGreatDoor

namespace Go.Proofs.YtolebfnkmjmfnaaGreatDoor
open Go.RowKit
open Lm
attribute [local go_sem ↓] Go.wp_at_zero Go.wp_at_succ

set_option maxRecDepth 20000 in
set_option maxHeartbeats 2000000 in
theorem outward_ok (b1 : Bool) (a1 : Option Addr) (n1 k1 : Nat) (ex1 : Int) (b3 : Bool) (a3 : Option Addr) (n3 k3 : Nat) (ex3 : Int) (pos : Int) (L : Nat) (V1 V3 : Int) (w : World) (hT : Tab w) (h1 : G8 w b1 a1 n1 k1 ex1 L V1) (h3 : G8 w b3 a3 n3 k3 ex3 L V3) (hL : 4611686018427387904 ≤ L) (hK : fitE pos = true) (ho : Ok8 L (rv 0 V1 (2 ^ (pos + L).toNat))) (ho2 : Ok8 L (rv 1 V3 (2 ^ (pos + L).toNat))) :
    Calls Tryz.prog 118 #[.agg #[.bool b1, .slice a1 n1 k1, .int .i64 ex1, .bool b3, .slice a3 n3 k3, .int .i64 ex3], .int .i64 pos] w fun e w' => SS8 w e w' L (rv 0 V1 (2 ^ (pos + L).toNat)) (rv 1 V3 (2 ^ (pos + L).toNat)) := by
  obtain ⟨w0, hw0, hb0, q0, q1, q9⟩ := enter3 w (.cells #[.bool b1, .slice a1 n1 k1, .int .i64 ex1, .bool b3, .slice a3 n3 k3, .int .i64 ex3] 33) (.cells #[.int .i64 pos] 3) (.cells #[.bool false, .slice none 0 0, .int .i64 0, .bool false, .slice none 0 0, .int .i64 0] 33)
  obtain ⟨y0, y1, y2, y3, y4, y5⟩ := hexa q0
  have C := byD (w.heap.size + 1) pos b1 a1 n1 k1 ex1 b3 a3 n3 k3 ex3 L V1 V3 w0 q1 (hT.below hb0) (h1.below hb0) (h3.below hb0) hL hK ho ho2
  have HU0 := hide hb0
  have HR0 : Hid (w0.heap[w.heap.size + 1 + 1]? = some (.cells #[.bool false, .slice none 0 0, .int .i64 0, .bool false, .slice none 0 0, .int .i64 0] 33)) := hide q9
  generalize rv 0 V1 (2 ^ (pos + L).toNat) = VA at *
  generalize rv 1 V3 (2 ^ (pos + L).toNat) = VB at *
  clear q0 q1 q9 hb0 hT h1 h3 ho ho2
  go_enter Tryz.func118, Tryz.ntmps118
  go_wp2_with fail
  refine C.mono ?_
  rintro e t1 ⟨⟨b6, a6, n6, c6, e6, b7, a7, n7, c7, e7, rfl, hg1, hg2⟩, g1⟩
  have HC1 := hide (block_upW g1 HR0.out)
  have HG := hide (bl_trans8 HU0.out g1)
  have HD1 := hide hg1
  have HD2 := hide hg2
  have hf1 := hexaf HC1.out
  obtain ⟨m0, m1, m2, m3, m4, m5⟩ := hexa HC1.out
  clear g1 hg1 hg2 C
  go_wp2
  have T3 := hexa_all HC1.out (.bool b6) (.slice a6 n6 c6) (.int .i64 e6) (.bool b7) (.slice a7 n7 c7) (.int .i64 e7)
  have T4 := below_hexa HG.out (show w.heap.size ≤ w.heap.size+1+1 by omega) (.bool b6) (.slice a6 n6 c6) (.int .i64 e6) (.bool b7) (.slice a7 n7 c7) (.int .i64 e7)
  have T5 := HD1.out.hexa HC1.out b6 a6 n6 c6 e6 b7 a7 n7 c7 e7
  have T6 := HD2.out.hexa HC1.out b6 a6 n6 c6 e6 b7 a7 n7 c7 e7
  obtain ⟨p0, p1, p2, p3, p4, p5⟩ := hexa T3
  have HE := hide (And.intro T5 (And.intro T6 T4))
  clear T3 T4 T5 T6
  generalize (((((t1.setCell ⟨w.heap.size+1+1, 0, none⟩ (.bool b6)).setCell ⟨w.heap.size+1+1, 1, none⟩ (.slice a6 n6 c6)).setCell ⟨w.heap.size+1+1, 2, none⟩ (.int .i64 e6)).setCell ⟨w.heap.size+1+1, 3, none⟩ (.bool b7)).setCell ⟨w.heap.size+1+1, 4, none⟩ (.slice a7 n7 c7)).setCell ⟨w.heap.size+1+1, 5, none⟩ (.int .i64 e7) = w5 at *
  refine bodyPost_ret (v := .tuple #[.agg #[.bool b6, .slice a6 n6 c6, .int .i64 e6, .bool b7, .slice a7 n7 c7, .int .i64 e7], .int .i64 0]) (by simp [results, Tryz.results118, go_sem, p0, p1, p2, p3, p4, p5]) rfl ?_
  exact ⟨⟨_, _, _, _, _, _, _, _, _, _, rfl, HE.out.1, HE.out.2.1⟩, HE.out.2.2⟩

set_option maxRecDepth 20000 in
set_option maxHeartbeats 2000000 in
theorem outwardOf_ok (b1 : Bool) (a1 : Option Addr) (n1 k1 : Nat) (ex1 : Int) (b3 : Bool) (a3 : Option Addr) (n3 k3 : Nat) (ex3 : Int) (pos : Int) (L : Nat) (V1 V3 : Int) (w : World) (hT : Tab w) (h1 : G8 w b1 a1 n1 k1 ex1 L V1) (h3 : G8 w b3 a3 n3 k3 ex3 L V3) (hL : 4611686018427387904 ≤ L) (hK : fitE pos = true) (ho : Ok8 L (rv 0 V1 (2 ^ (pos + L).toNat))) (ho2 : Ok8 L (rv 1 V3 (2 ^ (pos + L).toNat))) :
    Calls Tryz.prog 93 #[.agg #[.bool b1, .slice a1 n1 k1, .int .i64 ex1, .bool b3, .slice a3 n3 k3, .int .i64 ex3], .int .i64 0, .int .i64 pos] w fun e w' => SS8 w e w' L (rv 0 V1 (2 ^ (pos + L).toNat)) (rv 1 V3 (2 ^ (pos + L).toNat)) := by
  obtain ⟨w0, hw0, hb0, q0, q9⟩ := enter2 w (.cells #[.bool b1, .slice a1 n1 k1, .int .i64 ex1, .bool b3, .slice a3 n3 k3, .int .i64 ex3] 33) (.cells #[.bool false, .slice none 0 0, .int .i64 0, .bool false, .slice none 0 0, .int .i64 0] 33)
  obtain ⟨y0, y1, y2, y3, y4, y5⟩ := hexa q0
  have C := outward_ok b1 a1 n1 k1 ex1 b3 a3 n3 k3 ex3 pos L V1 V3 w0 (hT.below hb0) (h1.below hb0) (h3.below hb0) hL hK ho ho2
  have HU0 := hide hb0
  have HR0 := hide q9
  generalize rv 0 V1 (2 ^ (pos + L).toNat) = VA at *
  generalize rv 1 V3 (2 ^ (pos + L).toNat) = VB at *
  clear q0 q9 hb0 hT h1 h3 ho ho2
  go_enter Tryz.func93, Tryz.ntmps93
  go_wp2_with fail
  refine C.mono ?_
  rintro e t1 ⟨⟨b6, a6, n6, c6, e6, b7, a7, n7, c7, e7, rfl, hg1, hg2⟩, g1⟩
  have HC1 := hide (block_upW g1 HR0.out)
  have HG := hide (bl_trans8 HU0.out g1)
  have HD1 := hide hg1
  have HD2 := hide hg2
  have hf1 := hexaf HC1.out
  obtain ⟨m0, m1, m2, m3, m4, m5⟩ := hexa HC1.out
  clear g1 hg1 hg2 C
  go_wp2
  have T3 := hexa_all HC1.out (.bool b6) (.slice a6 n6 c6) (.int .i64 e6) (.bool b7) (.slice a7 n7 c7) (.int .i64 e7)
  have T4 := below_hexa HG.out (show w.heap.size ≤ w.heap.size+1 by omega) (.bool b6) (.slice a6 n6 c6) (.int .i64 e6) (.bool b7) (.slice a7 n7 c7) (.int .i64 e7)
  have T5 := HD1.out.hexa HC1.out b6 a6 n6 c6 e6 b7 a7 n7 c7 e7
  have T6 := HD2.out.hexa HC1.out b6 a6 n6 c6 e6 b7 a7 n7 c7 e7
  obtain ⟨p0, p1, p2, p3, p4, p5⟩ := hexa T3
  have HE := hide (And.intro T5 (And.intro T6 T4))
  clear T3 T4 T5 T6
  generalize (((((t1.setCell ⟨w.heap.size+1, 0, none⟩ (.bool b6)).setCell ⟨w.heap.size+1, 1, none⟩ (.slice a6 n6 c6)).setCell ⟨w.heap.size+1, 2, none⟩ (.int .i64 e6)).setCell ⟨w.heap.size+1, 3, none⟩ (.bool b7)).setCell ⟨w.heap.size+1, 4, none⟩ (.slice a7 n7 c7)).setCell ⟨w.heap.size+1, 5, none⟩ (.int .i64 e7) = w5 at *
  refine bodyPost_ret (v := .tuple #[.agg #[.bool b6, .slice a6 n6 c6, .int .i64 e6, .bool b7, .slice a7 n7 c7, .int .i64 e7], .int .i64 0]) (by simp [results, Tryz.results93, go_sem, p0, p1, p2, p3, p4, p5]) rfl ?_
  exact ⟨⟨_, _, _, _, _, _, _, _, _, _, rfl, HE.out.1, HE.out.2.1⟩, HE.out.2.2⟩

set_option maxRecDepth 20000 in
set_option maxHeartbeats 2000000 in
theorem sums_ok (b1 : Bool) (a1 : Option Addr) (n1 k1 : Nat) (ex1 : Int) (b2 : Bool) (a2 : Option Addr) (n2 k2 : Nat) (ex2 : Int) (b3 : Bool) (a3 : Option Addr) (n3 k3 : Nat) (ex3 : Int) (b4 : Bool) (a4 : Option Addr) (n4 k4 : Nat) (ex4 : Int) (L : Nat) (V1 V2 V3 V4 : Int) (w : World) (hT : Tab w) (h1 : I8 w b1 a1 n1 k1 ex1 L V1) (h2 : I8 w b2 a2 n2 k2 ex2 L V2) (h3 : I8 w b3 a3 n3 k3 ex3 L V3) (h4 : I8 w b4 a4 n4 k4 ex4 L V4) (hE1 : fitE ex1 = true) (hE2 : fitE ex2 = true) (hE3 : fitE ex3 = true) (hE4 : fitE ex4 = true) (ho : Ok8 L (V1 + V3)) (ho2 : Ok8 L (V2 + V4)) :
    Calls Tryz.prog 67 #[.agg #[.bool b1, .slice a1 n1 k1, .int .i64 ex1, .bool b2, .slice a2 n2 k2, .int .i64 ex2], .agg #[.bool b3, .slice a3 n3 k3, .int .i64 ex3, .bool b4, .slice a4 n4 k4, .int .i64 ex4]] w fun e w' => SS8 w e w' L (V1 + V3) (V2 + V4) := by
  obtain ⟨w0, hw0, hb0, q0, q1, q9⟩ := enter3 w (.cells #[.bool b1, .slice a1 n1 k1, .int .i64 ex1, .bool b2, .slice a2 n2 k2, .int .i64 ex2] 33) (.cells #[.bool b3, .slice a3 n3 k3, .int .i64 ex3, .bool b4, .slice a4 n4 k4, .int .i64 ex4] 33) (.cells #[.bool false, .slice none 0 0, .int .i64 0, .bool false, .slice none 0 0, .int .i64 0] 33)
  obtain ⟨y0, y1, y2, y3, y4, y5⟩ := hexa q0
  obtain ⟨z0, z1, z2, z3, z4, z5⟩ := hexa q1
  have C := byP b1 a1 n1 k1 ex1 b3 a3 n3 k3 ex3 b2 a2 n2 k2 ex2 b4 a4 n4 k4 ex4 L V1 V3 V2 V4 w0 (hT.below hb0) (h1.below hb0) (h3.below hb0) (h2.below hb0) (h4.below hb0) hE1 hE3 hE2 hE4 ho ho2
  have HU0 := hide hb0
  have HR0 : Hid (w0.heap[w.heap.size + 1 + 1]? = some (.cells #[.bool false, .slice none 0 0, .int .i64 0, .bool false, .slice none 0 0, .int .i64 0] 33)) := hide q9
  generalize V1 + V3 = VA at *
  generalize V2 + V4 = VB at *
  clear q0 q1 q9 hb0 hT h1 h2 h3 h4 ho ho2
  go_enter Tryz.func67, Tryz.ntmps67
  go_wp2_with fail
  refine C.mono ?_
  rintro e t1 ⟨⟨b6, a6, n6, c6, e6, b7, a7, n7, c7, e7, rfl, hg1, hg2⟩, g1⟩
  have HC1 := hide (block_upW g1 HR0.out)
  have HG := hide (bl_trans8 HU0.out g1)
  have HD1 := hide hg1
  have HD2 := hide hg2
  have hf1 := hexaf HC1.out
  obtain ⟨m0, m1, m2, m3, m4, m5⟩ := hexa HC1.out
  clear g1 hg1 hg2 C
  go_wp2
  have T3 := hexa_all HC1.out (.bool b6) (.slice a6 n6 c6) (.int .i64 e6) (.bool b7) (.slice a7 n7 c7) (.int .i64 e7)
  have T4 := below_hexa HG.out (show w.heap.size ≤ w.heap.size+1+1 by omega) (.bool b6) (.slice a6 n6 c6) (.int .i64 e6) (.bool b7) (.slice a7 n7 c7) (.int .i64 e7)
  have T5 := HD1.out.hexa HC1.out b6 a6 n6 c6 e6 b7 a7 n7 c7 e7
  have T6 := HD2.out.hexa HC1.out b6 a6 n6 c6 e6 b7 a7 n7 c7 e7
  obtain ⟨p0, p1, p2, p3, p4, p5⟩ := hexa T3
  have HE := hide (And.intro T5 (And.intro T6 T4))
  clear T3 T4 T5 T6
  generalize (((((t1.setCell ⟨w.heap.size+1+1, 0, none⟩ (.bool b6)).setCell ⟨w.heap.size+1+1, 1, none⟩ (.slice a6 n6 c6)).setCell ⟨w.heap.size+1+1, 2, none⟩ (.int .i64 e6)).setCell ⟨w.heap.size+1+1, 3, none⟩ (.bool b7)).setCell ⟨w.heap.size+1+1, 4, none⟩ (.slice a7 n7 c7)).setCell ⟨w.heap.size+1+1, 5, none⟩ (.int .i64 e7) = w5 at *
  refine bodyPost_ret (v := .tuple #[.agg #[.bool b6, .slice a6 n6 c6, .int .i64 e6, .bool b7, .slice a7 n7 c7, .int .i64 e7], .int .i64 0]) (by simp [results, Tryz.results67, go_sem, p0, p1, p2, p3, p4, p5]) rfl ?_
  exact ⟨⟨_, _, _, _, _, _, _, _, _, _, rfl, HE.out.1, HE.out.2.1⟩, HE.out.2.2⟩

/-- Compare of two that mean something. -/
theorem ycmpI (b1 : Bool) (a1 : Option Addr) (n1 k1 : Nat) (ex1 : Int) (b2 : Bool) (a2 : Option Addr) (n2 k2 : Nat) (ex2 : Int) (L : Nat) (V1 V2 : Int) (w : World) (hL : 4611686018427387904 ≤ L) (h1 : I8 w b1 a1 n1 k1 ex1 L V1) (h2 : I8 w b2 a2 n2 k2 ex2 L V2) (hE1 : fitE ex1 = true) (hE2 : fitE ex2 = true) :
    Calls Tryz.prog 57 #[.agg #[.bool b1, .slice a1 n1 k1, .int .i64 ex1], .agg #[.bool b2, .slice a2 n2 k2, .int .i64 ex2]] w fun e w' => e = .returned (.tuple #[.int .i64 (cmpZ V1 V2), .int .i64 0]) ∧ Below w.heap.size w w' := by
  obtain ⟨X, rfl, hA, hf, hX⟩ := h1
  obtain ⟨Y, rfl, hB, hg, hY⟩ := h2
  have hx := hX.1
  have hy := hY.1
  refine (yCompare_ok b1 a1 k1 X ex1 b2 a2 k2 Y ex2 L (ex1 + L).toNat (ex2 + L).toNat w hA hB (by omega) (by omega) hE1 hE2 hL (by omega) (by omega)).mono fun e w' h => ⟨?_, h.2⟩
  rw [h.1, hX.2, hY.2]

theorem dozen {w : World} {g : Nat} {a b c d e f a' b' c' d' e' f' : Value} {t : TypeId} (h : w.heap[g]? = some (.cells #[a, b, c, d, e, f, a', b', c', d', e', f'] t)) : (w.cell? ⟨g, 0, none⟩ = some a ∧ w.cell? ⟨g, 1, none⟩ = some b ∧ w.cell? ⟨g, 2, none⟩ = some c ∧ w.cell? ⟨g, 3, none⟩ = some d ∧ w.cell? ⟨g, 4, none⟩ = some e ∧ w.cell? ⟨g, 5, none⟩ = some f) ∧ (w.cell? ⟨g, 6, none⟩ = some a' ∧ w.cell? ⟨g, 7, none⟩ = some b' ∧ w.cell? ⟨g, 8, none⟩ = some c' ∧ w.cell? ⟨g, 9, none⟩ = some d' ∧ w.cell? ⟨g, 10, none⟩ = some e' ∧ w.cell? ⟨g, 11, none⟩ = some f') := by
  refine ⟨⟨?_, ?_, ?_, ?_, ?_, ?_⟩, ⟨?_, ?_, ?_, ?_, ?_, ?_⟩⟩ <;> simp [World.cell?, h]

theorem cmp_le9 {y z : Int} (h : y ≤ z) : ¬ 0 < cmpZ y z := by
  unfold cmpZ
  split
  · omega
  · rw [if_neg (by omega)]; omega

set_option maxRecDepth 20000 in
set_option maxHeartbeats 4000000 in
theorem fault2_ok (gs : Nat) (b1 : Bool) (a1 : Option Addr) (n1 k1 : Nat) (ex1 : Int) (b2 : Bool) (a2 : Option Addr) (n2 k2 : Nat) (ex2 : Int) (b3 : Bool) (a3 : Option Addr) (n3 k3 : Nat) (ex3 : Int) (b4 : Bool) (a4 : Option Addr) (n4 k4 : Nat) (ex4 : Int) (L : Nat) (V1 V2 V3 V4 : Int) (w : World) (hg : w.heap[gs]? = some (.cells #[.bool b1, .slice a1 n1 k1, .int .i64 ex1, .bool b2, .slice a2 n2 k2, .int .i64 ex2, .bool b3, .slice a3 n3 k3, .int .i64 ex3, .bool b4, .slice a4 n4 k4, .int .i64 ex4] 33)) (hL : 4611686018427387904 ≤ L) (h1 : I8 w b1 a1 n1 k1 ex1 L V1) (h2 : I8 w b2 a2 n2 k2 ex2 L V2) (h3 : I8 w b3 a3 n3 k3 ex3 L V3) (h4 : I8 w b4 a4 n4 k4 ex4 L V4) (hE1 : fitE ex1 = true) (hE2 : fitE ex2 = true) (hE3 : fitE ex3 = true) (hE4 : fitE ex4 = true) (ho : V1 ≤ V2) (ho2 : V3 ≤ V4) :
    Calls Tryz.prog 25 #[.slice (some ⟨gs, 0, none⟩) 2 2] w fun e w' => e = .returned (.int .i64 0) ∧ Below w.heap.size w w' := by
  have HS := hide hg
  have i1 := cmp_le9 ho
  have i2 := cmp_le9 ho2
  have C1 := hide (fun (W : World) (hb : Below w.heap.size w W) => ycmpI b1 a1 n1 k1 ex1 b2 a2 n2 k2 ex2 L V1 V2 W hL (h1.below hb) (h2.below hb) hE1 hE2)
  have C2 := hide (fun (W : World) (hb : Below w.heap.size w W) => ycmpI b3 a3 n3 k3 ex3 b4 a4 n4 k4 ex4 L V3 V4 W hL (h3.below hb) (h4.below hb) hE3 hE4)
  generalize cmpZ V1 V2 = o1 at *
  generalize cmpZ V3 V4 = o2 at *
  clear hg h1 h2 h3 h4 ho ho2
  go_enter Tryz.func25, Tryz.ntmps25
  go_wp2
  go_loopw [9] (fun i wr => ∃ k : Nat, k ≤ 2 ∧ i = .int .i64 k ∧ Below w.heap.size w wr) (fun i _ => 2 - (intOf i).toNat)
  case atStart => exact ⟨0, by omega, rfl, Below.refl _ _⟩
  case round =>
    obtain ⟨k, hk, rfl, hb⟩ := hrel
    have HB := hide hb
    obtain ⟨⟨c0, c1, c2, c3, c4, c5⟩, ⟨c6, c7, c8, c9, c10, c11⟩⟩ := dozen (block_upW hb HS.out)
    clear hb
    rcases (show k = 0 ∨ k = 1 ∨ k = 2 by omega) with rfl | rfl | rfl
    · have CMP := C1
      obtain ⟨w2, hw2, hb2, q2⟩ := enter1 wr (.cells #[.bool b1, .slice a1 n1 k1, .int .i64 ex1, .bool b2, .slice a2 n2 k2, .int .i64 ex2] 33)
      have HB2 := hide (bl_trans8 HB.out hb2)
      have C := CMP.out w2 HB2.out
      obtain ⟨x0, x1, x2, x3, x4, x5⟩ := hexa q2
      clear hb2 q2
      go_wp2_with fail
      refine C.mono ?_
      rintro e t3 ⟨rfl, g3⟩
      have HB3 := hide (bl_trans8 HB2.out g3)
      clear g3 C x0 x1 x2 x3 x4 x5
      go_wp2
      go_roundw
      case rel => exact ⟨1, by omega, by go_num, HB3.out⟩
      case measure => simp [intOf]
    · have CMP := C2
      obtain ⟨w2, hw2, hb2, q2⟩ := enter1 wr (.cells #[.bool b3, .slice a3 n3 k3, .int .i64 ex3, .bool b4, .slice a4 n4 k4, .int .i64 ex4] 33)
      have HB2 := hide (bl_trans8 HB.out hb2)
      have C := CMP.out w2 HB2.out
      obtain ⟨x0, x1, x2, x3, x4, x5⟩ := hexa q2
      clear hb2 q2
      go_wp2_with fail
      refine C.mono ?_
      rintro e t3 ⟨rfl, g3⟩
      have HB3 := hide (bl_trans8 HB2.out g3)
      clear g3 C x0 x1 x2 x3 x4 x5
      go_wp2
      go_roundw
      case rel => exact ⟨2, by omega, by go_num, HB3.out⟩
      case measure => simp [intOf]
    · go_wp2
      go_ret
      exact ⟨rfl, HB.out⟩

end Go.Proofs.YtolebfnkmjmfnaaGreatDoor

namespace Go.Proofs.YtolebfnkmjmfnaaGreatDoor
open Go.RowKit
open Lm
attribute [local go_sem ↓] Go.wp_at_zero Go.wp_at_succ

/-- What two calls' codes come to. -/
def refC (c1 c2 : Int) : Int := if c1 = 3 then 3 else if c2 = 3 then 3 else if c2 = 0 then c1 else c2

theorem refC_zero {c1 c2 : Int} : refC c1 c2 = 0 ↔ c1 = 0 ∧ c2 = 0 := by
  unfold refC
  split
  · omega
  · split
    · omega
    · split <;> omega

set_option maxRecDepth 20000 in
set_option maxHeartbeats 2000000 in
theorem refusal_any (g : Nat) (c1 c2 : Int) (w : World) (hL : w.heap[g]? = some (.cells #[.int .i64 c1, .int .i64 c2] 46)) :
    Calls Tryz.prog 31 #[.slice (some ⟨g, 0, none⟩) 2 2] w fun e w' => e = .returned (.int .i64 (refC c1 c2)) ∧ w' = w := by
  obtain ⟨d0, d1⟩ := duo hL
  clear hL
  by_cases h1 : c1 = 3
  · have i1 : (c1 == 3) = true := by rw [h1]; rfl
    rw [show refC c1 c2 = c1 by unfold refC; rw [if_pos h1, h1]]
    clear h1
    go_enter Tryz.func31, Tryz.ntmps31
    go_wp2
    go_loop [3, 8] (fun t i => t = .int .i64 0 ∧ i = .int .i64 0) (fun _ i => 2 - (intOf i).toNat)
    case atStart => exact ⟨rfl, rfl⟩
    case round =>
      obtain ⟨rfl, rfl⟩ := hrel
      go_wp2
      go_ret
      exact ⟨rfl, rfl⟩
  · have i1 : (c1 == 3) = false := by rw [beq_eq_false_iff_ne]; exact h1
    have HT1 : Hid (∀ t : Int, (if c1 = 0 then t else c1) = (if c1 = 0 then t else c1)) := hide (fun _ => rfl)
    obtain ⟨n1, hn1⟩ : ∃ n1 : Bool, (c1 != 0) = n1 := ⟨_, rfl⟩
    have hz1 : n1 = false → c1 = 0 := by
      intro h; rw [h] at hn1; simpa using hn1
    by_cases h2 : c2 = 3
    · have i2 : (c2 == 3) = true := by rw [h2]; rfl
      rw [show refC c1 c2 = c2 by unfold refC; rw [if_neg h1, if_pos h2, h2]]
      clear h1 h2 HT1 hz1
      go_enter Tryz.func31, Tryz.ntmps31
      go_wp2
      go_loop [3, 8] (fun t i => ∃ (k : Nat) (x : Int), k ≤ 1 ∧ t = .int .i64 x ∧ i = .int .i64 k) (fun _ i => 2 - (intOf i).toNat)
      case atStart => exact ⟨0, 0, by omega, rfl, rfl⟩
      case round =>
        obtain ⟨k, x, hk, rfl, rfl⟩ := hrel
        rcases (show k = 0 ∨ k = 1 by omega) with rfl | rfl
        · cases n1
          · go_wp2
            go_round
            case rel => exact ⟨1, _, by omega, rfl, by go_num⟩
            case measure => simp [intOf]
          · go_wp2
            go_round
            case rel => exact ⟨1, _, by omega, rfl, by go_num⟩
            case measure => simp [intOf]
        · go_wp2
          go_ret
          exact ⟨rfl, rfl⟩
    · have i2 : (c2 == 3) = false := by rw [beq_eq_false_iff_ne]; exact h2
      obtain ⟨n2, hn2⟩ : ∃ n2 : Bool, (c2 != 0) = n2 := ⟨_, rfl⟩
      have hz2 : (n2 = false → c2 = 0) ∧ (n2 = true → c2 ≠ 0) := by
        refine ⟨fun h => ?_, fun h => ?_⟩
        · rw [h] at hn2; simpa using hn2
        · rw [h] at hn2; simpa using hn2
      obtain ⟨R, hR⟩ : ∃ R, refC c1 c2 = R := ⟨_, rfl⟩
      have HR1 : Hid (n2 = false → R = c1) := hide (fun h => by rw [← hR]; unfold refC; rw [if_neg h1, if_neg h2, if_pos (hz2.1 h)])
      have HR2 : Hid (n2 = true → R = c2) := hide (fun h => by rw [← hR]; unfold refC; rw [if_neg h1, if_neg h2, if_neg (hz2.2 h)])
      have HZ1 := hide hz1
      rw [hR]
      clear h1 h2 HT1 hz1 hz2 hR
      go_enter Tryz.func31, Tryz.ntmps31
      go_wp2
      go_loop [3, 8] (fun t i => ∃ k : Nat, (k = 0 ∧ t = .int .i64 0 ∨ k = 1 ∧ t = .int .i64 c1 ∨ k = 2 ∧ t = .int .i64 R) ∧ i = .int .i64 k) (fun _ i => 2 - (intOf i).toNat)
      case atStart => exact ⟨0, .inl ⟨rfl, rfl⟩, rfl⟩
      case round =>
        obtain ⟨k, hkk, rfl⟩ := hrel
        rcases hkk with ⟨rfl, rfl⟩ | ⟨rfl, rfl⟩ | ⟨rfl, rfl⟩
        · cases n1
          · have hc := HZ1.out rfl
            subst hc
            go_wp2
            go_round
            case rel => exact ⟨1, .inr (.inl ⟨rfl, rfl⟩), by go_num⟩
            case measure => simp [intOf]
          · go_wp2
            go_round
            case rel => exact ⟨1, .inr (.inl ⟨rfl, rfl⟩), by go_num⟩
            case measure => simp [intOf]
        · cases n2
          · have hc := HR1.out rfl
            subst hc
            go_wp2
            go_round
            case rel => exact ⟨2, .inr (.inr ⟨rfl, rfl⟩), by go_num⟩
            case measure => simp [intOf]
          · have hc := HR2.out rfl
            subst hc
            go_wp2
            go_round
            case rel => exact ⟨2, .inr (.inr ⟨rfl, rfl⟩), by go_num⟩
            case measure => simp [intOf]
        · go_wp2
          go_ret
          exact ⟨rfl, rfl⟩

/-- What is wrong with a span, by what Compare tells of its ends. -/
def fltC (o c : Int) : Int := if c = 0 then (if 0 < o then 100 else 0) else c

set_option maxRecDepth 20000 in
set_option maxHeartbeats 4000000 in
/-- fault of one span. -/
theorem fault1_any (gs : Nat) (b1 : Bool) (a1 : Option Addr) (n1 k1 : Nat) (ex1 : Int) (b2 : Bool) (a2 : Option Addr) (n2 k2 : Nat) (ex2 : Int) (o c : Int) (w : World) (hg : w.heap[gs]? = some (.cells #[.bool b1, .slice a1 n1 k1, .int .i64 ex1, .bool b2, .slice a2 n2 k2, .int .i64 ex2] 33)) (hc : ∀ W, Below w.heap.size w W → Calls Tryz.prog 57 #[.agg #[.bool b1, .slice a1 n1 k1, .int .i64 ex1], .agg #[.bool b2, .slice a2 n2 k2, .int .i64 ex2]] W fun e w' => e = .returned (.tuple #[.int .i64 o, .int .i64 c]) ∧ Below W.heap.size W w') :
    Calls Tryz.prog 25 #[.slice (some ⟨gs, 0, none⟩) 1 1] w fun e w' => e = .returned (.int .i64 (fltC o c)) ∧ Below w.heap.size w w' := by
  have HS := hide hg
  have C1 := hide hc
  clear hg hc
  by_cases hz : c = 0
  · subst hz
    by_cases ho : 0 < o
    · rw [show fltC o 0 = 100 by unfold fltC; rw [if_pos rfl, if_pos ho]]
      have i1 : decide (0 < o) = true := decide_eq_true ho
      clear ho
      go_enter Tryz.func25, Tryz.ntmps25
      go_wp2
      go_loopw [9] (fun i wr => i = .int .i64 0 ∧ Below w.heap.size w wr) (fun i _ => 1 - (intOf i).toNat)
      case atStart => exact ⟨rfl, Below.refl _ _⟩
      case round =>
        obtain ⟨rfl, hb⟩ := hrel
        have HB := hide hb
        obtain ⟨c0, c1, c2, c3, c4, c5⟩ := hexa (block_upW hb HS.out)
        clear hb
        obtain ⟨w2, hw2, hb2, q2⟩ := enter1 wr (.cells #[.bool b1, .slice a1 n1 k1, .int .i64 ex1, .bool b2, .slice a2 n2 k2, .int .i64 ex2] 33)
        have HB2 := hide (bl_trans8 HB.out hb2)
        have C := C1.out w2 HB2.out
        obtain ⟨x0, x1, x2, x3, x4, x5⟩ := hexa q2
        clear hb2 q2
        go_wp2_with fail
        refine C.mono ?_
        rintro e t3 ⟨rfl, g3⟩
        have HB3 := hide (bl_trans8 HB2.out g3)
        clear g3 C x0 x1 x2 x3 x4 x5
        go_wp2
        go_ret
        exact ⟨rfl, HB3.out⟩
    · rw [show fltC o 0 = 0 by unfold fltC; rw [if_pos rfl, if_neg ho]]
      have i1 : decide (0 < o) = false := decide_eq_false ho
      clear ho
      go_enter Tryz.func25, Tryz.ntmps25
      go_wp2
      go_loopw [9] (fun i wr => ∃ k : Nat, k ≤ 1 ∧ i = .int .i64 k ∧ Below w.heap.size w wr) (fun i _ => 1 - (intOf i).toNat)
      case atStart => exact ⟨0, by omega, rfl, Below.refl _ _⟩
      case round =>
        obtain ⟨k, hk, rfl, hb⟩ := hrel
        have HB := hide hb
        obtain ⟨c0, c1, c2, c3, c4, c5⟩ := hexa (block_upW hb HS.out)
        clear hb
        rcases (show k = 0 ∨ k = 1 by omega) with rfl | rfl
        · skip
          obtain ⟨w2, hw2, hb2, q2⟩ := enter1 wr (.cells #[.bool b1, .slice a1 n1 k1, .int .i64 ex1, .bool b2, .slice a2 n2 k2, .int .i64 ex2] 33)
          have HB2 := hide (bl_trans8 HB.out hb2)
          have C := C1.out w2 HB2.out
          obtain ⟨x0, x1, x2, x3, x4, x5⟩ := hexa q2
          clear hb2 q2
          go_wp2_with fail
          refine C.mono ?_
          rintro e t3 ⟨rfl, g3⟩
          have HB3 := hide (bl_trans8 HB2.out g3)
          clear g3 C x0 x1 x2 x3 x4 x5
          go_wp2
          go_roundw
          case rel => exact ⟨1, by omega, by go_num, HB3.out⟩
          case measure => simp [intOf]
        · go_wp2
          go_ret
          exact ⟨rfl, HB.out⟩
  · rw [show fltC o c = c by unfold fltC; rw [if_neg hz]]
    have i1 : (c != 0) = true := by simpa using hz
    clear hz
    go_enter Tryz.func25, Tryz.ntmps25
    go_wp2
    go_loopw [9] (fun i wr => i = .int .i64 0 ∧ Below w.heap.size w wr) (fun i _ => 1 - (intOf i).toNat)
    case atStart => exact ⟨rfl, Below.refl _ _⟩
    case round =>
      obtain ⟨rfl, hb⟩ := hrel
      have HB := hide hb
      obtain ⟨c0, c1, c2, c3, c4, c5⟩ := hexa (block_upW hb HS.out)
      clear hb
      obtain ⟨w2, hw2, hb2, q2⟩ := enter1 wr (.cells #[.bool b1, .slice a1 n1 k1, .int .i64 ex1, .bool b2, .slice a2 n2 k2, .int .i64 ex2] 33)
      have HB2 := hide (bl_trans8 HB.out hb2)
      have C := C1.out w2 HB2.out
      obtain ⟨x0, x1, x2, x3, x4, x5⟩ := hexa q2
      clear hb2 q2
      go_wp2_with fail
      refine C.mono ?_
      rintro e t3 ⟨rfl, g3⟩
      have HB3 := hide (bl_trans8 HB2.out g3)
      clear g3 C x0 x1 x2 x3 x4 x5
      go_wp2
      go_ret
      exact ⟨rfl, HB3.out⟩

end Go.Proofs.YtolebfnkmjmfnaaGreatDoor

namespace Go.Proofs.YtolebfnkmjmfnaaGreatDoor
open Go.RowKit
open Lm
attribute [local go_sem ↓] Go.wp_at_zero Go.wp_at_succ

/-- The code of a dyadic that was reckoned. -/
def dcode (M E : Int) : Int := if 67108864 < blen M.natAbs then 3 else if fitE E = true then 0 else 80

theorem DR.code {w : World} {base : Nat} {b : Bool} {va : Value} {ex c M E : Int} (h : DR w base b va ex c M E) : c = dcode M E := by
  obtain ⟨rs, h1, h2⟩ := h
  unfold dcode
  rcases h2 with ⟨rfl, _, _, _, _, h3, h4⟩ | ⟨rfl, _, _, _, _, h3⟩ | ⟨rfl, _, _, _, _, h3, h4⟩
  · rw [if_neg (by omega), if_pos h4]
  · rw [if_pos h3]
  · rw [if_neg (by omega), if_neg (by rw [h4]; decide)]

theorem Ans.hexa {w : World} {base g : Nat} {v a0 a1 a2 a3 a4 a5 : Value} {zs : List Nat} {t : TypeId} (h : Ans w base v zs) (hl : w.heap[g]? = some (.cells #[a0, a1, a2, a3, a4, a5] t)) (ht : t ≠ 101) (u0 u1 u2 u3 u4 u5 : Value) :
    Ans ((((((w.setCell ⟨g, 0, none⟩ u0).setCell ⟨g, 1, none⟩ u1).setCell ⟨g, 2, none⟩ u2).setCell ⟨g, 3, none⟩ u3).setCell ⟨g, 4, none⟩ u4).setCell ⟨g, 5, none⟩ u5) base v zs := by
  have l1 := box_modify (k := 0) hl u0
  have l2 := box_modify (k := 1) l1 u1
  have l3 := box_modify (k := 2) l2 u2
  have l4 := box_modify (k := 3) l3 u3
  have l5 := box_modify (k := 4) l4 u4
  exact (((((h.off8 hl ht).off8 l1 ht).off8 l2 ht).off8 l3 ht).off8 l4 ht).off8 l5 ht

theorem DR.hexa {w : World} {base g : Nat} {b : Bool} {va a0 a1 a2 a3 a4 a5 : Value} {ex c M E : Int} {t : TypeId} (h : DR w base b va ex c M E) (hl : w.heap[g]? = some (.cells #[a0, a1, a2, a3, a4, a5] t)) (ht : t ≠ 101) (u0 u1 u2 u3 u4 u5 : Value) :
    DR ((((((w.setCell ⟨g, 0, none⟩ u0).setCell ⟨g, 1, none⟩ u1).setCell ⟨g, 2, none⟩ u2).setCell ⟨g, 3, none⟩ u3).setCell ⟨g, 4, none⟩ u4).setCell ⟨g, 5, none⟩ u5) base b va ex c M E := by
  obtain ⟨rs, h1, h2⟩ := h
  exact ⟨rs, h1.hexa hl ht u0 u1 u2 u3 u4 u5, h2⟩

theorem apart10 {w : World} {v1 v2 : Value} {m : Nat} {r2 : List Nat} (h : ∀ g, v1.ownBlock = some g → g < m) (h2 : Ans w m v2 r2) : v1.ownBlock = none ∨ v1.ownBlock ≠ v2.ownBlock := by
  cases e : v1.ownBlock with
  | none => exact .inl rfl
  | some g =>
    refine .inr fun e2 => ?_
    have a := h g e
    have b := (h2.own.lt g e2.symm).1
    omega

/-- A span as a call answers it, of two dyadics that were reckoned: both, in memory of their own, or what was refused. -/
def SR (w : World) (base : Nat) (b1 : Bool) (v1 : Value) (e1 : Int) (b2 : Bool) (v2 : Value) (e2 c M1 E1 M2 E2 : Int) : Prop :=
  c = refC (dcode M1 E1) (dcode M2 E2) ∧ (c = 0 → DR w base b1 v1 e1 0 M1 E1 ∧ DR w base b2 v2 e2 0 M2 E2 ∧ (v1.ownBlock = none ∨ v1.ownBlock ≠ v2.ownBlock)) ∧
    (c ≠ 0 → b1 = false ∧ v1 = .slice none 0 0 ∧ e1 = 0 ∧ b2 = false ∧ v2 = .slice none 0 0 ∧ e2 = 0)

def SRes (w : World) (e : Ending) (w' : World) (M1 E1 M2 E2 : Int) : Prop :=
  (∃ b1 a1 n1 k1 e1 b2 a2 n2 k2 e2 c, e = .returned (.tuple #[.agg #[.bool b1, .slice a1 n1 k1, .int .i64 e1, .bool b2, .slice a2 n2 k2, .int .i64 e2], .int .i64 c]) ∧ SR w' w.heap.size b1 (.slice a1 n1 k1) e1 b2 (.slice a2 n2 k2) e2 c M1 E1 M2 E2) ∧ Below w.heap.size w w'

/-- A span that was refused. -/
def SErr (w : World) (c : Int) (e : Ending) (w' : World) : Prop := e = .returned (.tuple #[.agg #[.bool false, .slice none 0 0, .int .i64 0, .bool false, .slice none 0 0, .int .i64 0], .int .i64 c]) ∧ Below w.heap.size w w'

theorem SR.below {w w' : World} {base : Nat} {b1 : Bool} {v1 : Value} {e1 : Int} {b2 : Bool} {v2 : Value} {e2 c M1 E1 M2 E2 : Int} (h : SR w base b1 v1 e1 b2 v2 e2 c M1 E1 M2 E2) (hb : Below w.heap.size w w') : SR w' base b1 v1 e1 b2 v2 e2 c M1 E1 M2 E2 :=
  ⟨h.1, fun hc => ⟨(h.2.1 hc).1.below hb, (h.2.1 hc).2.1.below hb, (h.2.1 hc).2.2⟩, h.2.2⟩

theorem SR.base {w : World} {base base' : Nat} {b1 : Bool} {v1 : Value} {e1 : Int} {b2 : Bool} {v2 : Value} {e2 c M1 E1 M2 E2 : Int} (h : SR w base b1 v1 e1 b2 v2 e2 c M1 E1 M2 E2) (hb : base' ≤ base) : SR w base' b1 v1 e1 b2 v2 e2 c M1 E1 M2 E2 :=
  ⟨h.1, fun hc => ⟨(h.2.1 hc).1.base hb, (h.2.1 hc).2.1.base hb, (h.2.1 hc).2.2⟩, h.2.2⟩

theorem SR.hexa {w : World} {base g : Nat} {b1 : Bool} {v1 : Value} {e1 : Int} {b2 : Bool} {v2 : Value} {e2 c M1 E1 M2 E2 : Int} {a0 a1 a2 a3 a4 a5 : Value} {t : TypeId} (h : SR w base b1 v1 e1 b2 v2 e2 c M1 E1 M2 E2) (hl : w.heap[g]? = some (.cells #[a0, a1, a2, a3, a4, a5] t)) (ht : t ≠ 101) (u0 u1 u2 u3 u4 u5 : Value) :
    SR ((((((w.setCell ⟨g, 0, none⟩ u0).setCell ⟨g, 1, none⟩ u1).setCell ⟨g, 2, none⟩ u2).setCell ⟨g, 3, none⟩ u3).setCell ⟨g, 4, none⟩ u4).setCell ⟨g, 5, none⟩ u5) base b1 v1 e1 b2 v2 e2 c M1 E1 M2 E2 :=
  ⟨h.1, fun hc => ⟨(h.2.1 hc).1.hexa hl ht u0 u1 u2 u3 u4 u5, (h.2.1 hc).2.1.hexa hl ht u0 u1 u2 u3 u4 u5, (h.2.1 hc).2.2⟩, h.2.2⟩

set_option maxRecDepth 20000 in
set_option maxHeartbeats 1000000 in
/-- The closure of answered. -/
theorem makeF (b : Bool) (a : Option Addr) (c : Nat) (X : List Nat) (ex md : Int) (w : World) (hA : Arg w (.slice a X.length c) X) (hT : Tab w) (hf : X.length ≤ 17592186044416) (hE : fitE ex = true) :
    Calls Tryz.prog 90 #[.agg #[.bool b, .slice a X.length c, .int .i64 ex], .int .i64 md] w fun e w' => DRes w' w.heap.size e (omz (zz b (val X))) (oe (zz b (val X)) ex) ∧ Below w.heap.size w w' := by
  obtain ⟨w0, hw0, hb0, q0, q1⟩ := enter2 w (.cells #[.bool b, .slice a X.length c, .int .i64 ex] 31) (.cells #[.bool false, .slice none 0 0, .int .i64 0] 31)
  obtain ⟨k0, k1', k2'⟩ := tri8 q0
  have C := ymake_ok b a c X ex w0 (hA.below hb0) (hT.below hb0) hf hE
  have HC := hide q1
  have HB := hide hb0
  generalize omz (zz b (val X)) = M at *
  generalize oe (zz b (val X)) ex = E at *
  clear q0 q1 hb0 hT hA
  go_enter Tryz.func90, Tryz.ntmps90
  go_wp2_with fail
  refine C.mono ?_
  rintro e t1 ⟨⟨b6, a6, n6, c6, e6, d6, rfl, hg⟩, g1⟩
  have HC1 := hide (block_upW g1 HC.out)
  have HG := hide (bl_trans8 HB.out g1)
  have HDR := hide (hg.base HB.out.size)
  have hf1 := tri8f HC1.out
  obtain ⟨m0, m1, m2⟩ := tri8 HC1.out
  clear g1 hg C
  go_wp2
  have T3 := tri8_all HC1.out (.bool b6) (.slice a6 n6 c6) (.int .i64 e6)
  have T4 := below_tri8 HG.out (show w.heap.size ≤ w.heap.size + 1 by omega) (.bool b6) (.slice a6 n6 c6) (.int .i64 e6)
  have T5 := HDR.out.tri8 HC1.out (by decide) (.bool b6) (.slice a6 n6 c6) (.int .i64 e6)
  obtain ⟨p0, p1, p2⟩ := tri8 T3
  have HE := hide (And.intro T5 T4)
  clear T3 T4 T5
  generalize ((t1.setCell ⟨w.heap.size + 1, 0, none⟩ (.bool b6)).setCell ⟨w.heap.size + 1, 1, none⟩ (.slice a6 n6 c6)).setCell ⟨w.heap.size + 1, 2, none⟩ (.int .i64 e6) = w5 at *
  refine bodyPost_ret (v := .tuple #[.agg #[.bool b6, .slice a6 n6 c6, .int .i64 e6], .int .i64 d6]) (by simp [results, Tryz.results90, go_sem, p0, p1, p2]) rfl ?_
  exact ⟨⟨_, _, _, _, _, _, rfl, HE.out.1⟩, HE.out.2⟩

set_option maxRecDepth 20000 in
set_option maxHeartbeats 2000000 in
theorem byM (b1 : Bool) (a1 : Option Addr) (k1 : Nat) (X : List Nat) (ex1 : Int) (b3 : Bool) (a3 : Option Addr) (k3 : Nat) (Y : List Nat) (ex3 : Int) (w : World) (hT : Tab w) (hA : Arg w (.slice a1 X.length k1) X) (hB : Arg w (.slice a3 Y.length k3) Y) (f1 : X.length ≤ 17592186044416) (f2 : Y.length ≤ 17592186044416) (hE1 : fitE ex1 = true) (hE3 : fitE ex3 = true) :
    Calls Tryz.prog 89 #[.agg #[.bool b1, .slice a1 X.length k1, .int .i64 ex1], .agg #[.bool b3, .slice a3 Y.length k3, .int .i64 ex3], .func (.func 90) #[] #[]] w fun e w' => SRes w e w' (omz (zz b1 (val X))) (oe (zz b1 (val X)) ex1) (omz (zz b3 (val Y))) (oe (zz b3 (val Y)) ex3) := by
  obtain ⟨w0, hw0, hb0, q0, q1, q9⟩ := enter3 w (.cells #[.bool b1, .slice a1 X.length k1, .int .i64 ex1] 31) (.cells #[.bool b3, .slice a3 Y.length k3, .int .i64 ex3] 31) (.cells #[.bool false, .slice none 0 0, .int .i64 0, .bool false, .slice none 0 0, .int .i64 0] 33)
  obtain ⟨y0, y1, y2⟩ := tri8 q0
  have HU0 := hide hb0
  have HQ0 := hide q1
  have HR0 : Hid (w0.heap[w.heap.size + 1 + 1]? = some (.cells #[.bool false, .slice none 0 0, .int .i64 0, .bool false, .slice none 0 0, .int .i64 0] 33)) := hide q9
  have C1 := hide (fun (W : World) (hg : Below w.heap.size w W) => makeF b1 a1 k1 X ex1 0 W (hA.below hg) (hT.below hg) f1 hE1)
  have C2 := hide (fun (W : World) (hg : Below w.heap.size w W) => makeF b3 a3 k3 Y ex3 1 W (hB.below hg) (hT.below hg) f2 hE3)
  generalize omz (zz b1 (val X)) = M1 at *
  generalize oe (zz b1 (val X)) ex1 = E1 at *
  generalize omz (zz b3 (val Y)) = M2 at *
  generalize oe (zz b3 (val Y)) ex3 = E2 at *
  clear q0 q1 q9 hb0 hT hA hB
  go_enter Tryz.func89, Tryz.ntmps89
  go_wp2_with fail
  refine (C1.out w0 HU0.out).mono ?_
  rintro e t1 ⟨⟨b6, a6, n6, c6, e6, d6, rfl, hg⟩, g1⟩
  obtain ⟨w2, hw2, hb2, q2⟩ := enter1 t1 (.cells #[.bool b6, .slice a6 n6 c6, .int .i64 e6] 31)
  have s2 := bl_trans8 g1 hb2
  have HU2 := hide (bl_trans8 HU0.out s2)
  have HX2 := hide q2
  have HD1 := hide ((hg.below hb2).base HU0.out.size)
  have HQ1 := hide (block_upW s2 HQ0.out)
  have HR1 := hide (block_upW s2 HR0.out)
  clear g1 hg hb2 q2 s2 y0 y1 y2 hw0
  obtain ⟨z0, z1, z2⟩ := tri8 HQ1.out
  go_wp2_with fail
  refine (C2.out w2 HU2.out).mono ?_
  rintro e t3 ⟨⟨b7, a7, n7, c7, e7, d7, rfl, hg⟩, g1⟩
  obtain ⟨w4, hw4, hb4, q4⟩ := enter1 t3 (.cells #[.bool b7, .slice a7 n7 c7, .int .i64 e7] 31)
  obtain ⟨w6, hw6, hb6, q6⟩ := enter1 w4 (.cells #[.int .i64 d6, .int .i64 d7] 46)
  have s4 := bl_trans8 (bl_trans8 g1 hb4) hb6
  have hap : (Value.slice a6 n6 c6).ownBlock = none ∨ (Value.slice a6 n6 c6).ownBlock ≠ (Value.slice a7 n7 c7).ownBlock := by
    obtain ⟨r1, i1, _⟩ := HD1.out
    obtain ⟨r2, i2, _⟩ := hg
    exact apart10 (m := w2.heap.size) (fun g hg' => (i1.own.lt g hg').2) i2
  have HG := hide (bl_trans8 HU2.out s4)
  have HX4 := hide (block_upW s4 HX2.out)
  have HX5 := hide (block_upW hb6 q4)
  have hd1 := HD1.out.below s4
  have hd2 := (((hg.below hb4).below hb6).base HU2.out.size)
  have hc1 := hd1.code
  have hc2 := hd2.code
  have HSR : Hid ((refC d6 d7 = 0 → SR w6 w.heap.size b6 (.slice a6 n6 c6) e6 b7 (.slice a7 n7 c7) e7 0 M1 E1 M2 E2) ∧ (refC d6 d7 ≠ 0 → ∀ W, SR W w.heap.size false (.slice none 0 0) 0 false (.slice none 0 0) 0 (refC d6 d7) M1 E1 M2 E2)) := by
    refine hide ⟨fun h0 => ?_, fun h0 W => ?_⟩
    · obtain ⟨x1, x2⟩ := refC_zero.1 h0
      rw [x1] at hd1
      rw [x2] at hd2
      exact ⟨by rw [← hc1, ← hc2, h0], fun _ => ⟨hd1, hd2, hap⟩, fun h => absurd rfl h⟩
    · exact ⟨by rw [← hc1, ← hc2], fun h => absurd h h0, fun _ => ⟨rfl, rfl, rfl, rfl, rfl, rfl⟩⟩
  have HC1 := hide (block_upW s4 HR1.out)
  have RF := refusal_any w4.heap.size d6 d7 w6 q6
  clear g1 hg hb4 q4 s4 z0 z1 z2 hw2 HD1 hb6 q6 hd1 hd2 hc1 hc2 hap
  generalize refC d6 d7 = R at *
  obtain ⟨x0, x1, x2⟩ := tri8 HX4.out
  obtain ⟨x3, x4, x5⟩ := tri8 HX5.out
  have hf1 := hexaf HC1.out
  obtain ⟨m0, m1, m2, m3, m4, m5⟩ := hexa HC1.out
  by_cases hR : R = 0
  · subst hR
    have HS2 := hide (HSR.out.1 rfl)
    clear HSR
    have HSR := HS2
    clear HS2
    go_wp2_with fail
    refine RF.mono ?_
    rintro e wn ⟨rfl, hw⟩; rw [hw]; clear hw wn RF
    go_wp2
    have T3 := hexa_all HC1.out (.bool b6) (.slice a6 n6 c6) (.int .i64 e6) (.bool b7) (.slice a7 n7 c7) (.int .i64 e7)
    have T4 := below_hexa HG.out (show w.heap.size ≤ w.heap.size+1+1 by omega) (.bool b6) (.slice a6 n6 c6) (.int .i64 e6) (.bool b7) (.slice a7 n7 c7) (.int .i64 e7)
    have T5 := HSR.out.hexa HC1.out (by decide) (.bool b6) (.slice a6 n6 c6) (.int .i64 e6) (.bool b7) (.slice a7 n7 c7) (.int .i64 e7)
    obtain ⟨p0, p1, p2, p3, p4, p5⟩ := hexa T3
    have HE := hide (And.intro T5 T4)
    clear T3 T4 T5
    generalize (((((w6.setCell ⟨w.heap.size+1+1, 0, none⟩ (.bool b6)).setCell ⟨w.heap.size+1+1, 1, none⟩ (.slice a6 n6 c6)).setCell ⟨w.heap.size+1+1, 2, none⟩ (.int .i64 e6)).setCell ⟨w.heap.size+1+1, 3, none⟩ (.bool b7)).setCell ⟨w.heap.size+1+1, 4, none⟩ (.slice a7 n7 c7)).setCell ⟨w.heap.size+1+1, 5, none⟩ (.int .i64 e7) = w5 at *
    refine bodyPost_ret (v := .tuple #[.agg #[.bool b6, .slice a6 n6 c6, .int .i64 e6, .bool b7, .slice a7 n7 c7, .int .i64 e7], .int .i64 0]) (by simp [results, Tryz.results89, go_sem, p0, p1, p2, p3, p4, p5]) rfl ?_
    exact ⟨⟨_, _, _, _, _, _, _, _, _, _, _, rfl, HE.out.1⟩, HE.out.2⟩
  · have i9 : (R != 0) = true := by simpa using hR
    have HS2 := hide (HSR.out.2 hR)
    clear HSR hR
    go_wp2_with fail
    refine RF.mono ?_
    rintro e wn ⟨rfl, hw⟩; rw [hw]; clear hw wn RF
    go_wp2
    have T3 := hexa_all HC1.out (.bool false) (.slice none 0 0) (.int .i64 0) (.bool false) (.slice none 0 0) (.int .i64 0)
    have T4 := below_hexa HG.out (show w.heap.size ≤ w.heap.size+1+1 by omega) (.bool false) (.slice none 0 0) (.int .i64 0) (.bool false) (.slice none 0 0) (.int .i64 0)
    obtain ⟨p0, p1, p2, p3, p4, p5⟩ := hexa T3
    have HE := hide T4
    clear T3 T4
    generalize (((((w6.setCell ⟨w.heap.size+1+1, 0, none⟩ (.bool false)).setCell ⟨w.heap.size+1+1, 1, none⟩ (.slice none 0 0)).setCell ⟨w.heap.size+1+1, 2, none⟩ (.int .i64 0)).setCell ⟨w.heap.size+1+1, 3, none⟩ (.bool false)).setCell ⟨w.heap.size+1+1, 4, none⟩ (.slice none 0 0)).setCell ⟨w.heap.size+1+1, 5, none⟩ (.int .i64 0) = w5 at *
    refine bodyPost_ret (v := .tuple #[.agg #[.bool false, .slice none 0 0, .int .i64 0, .bool false, .slice none 0 0, .int .i64 0], .int .i64 R]) (by simp [results, Tryz.results89, go_sem, p0, p1, p2, p3, p4, p5]) rfl ?_
    exact ⟨⟨_, _, _, _, _, _, _, _, _, _, _, rfl, HS2.out _⟩, HE.out⟩

end Go.Proofs.YtolebfnkmjmfnaaGreatDoor
