/- Package roots: its inner functions, of numbers. -/
import Derived.Test.YtppblbhkghjphaaGreatDoorQS
import Derived.Test.YtppblbhkghjphaaGreatDoorQB
import Derived.Test.YtppblbhkghjphaaGreatDoorRootPZ
import Derived.Test.YtppblbhkghjphaaGreatDoorRootAZ
import Derived.Test.YtppblbhkghjphaaGreatDoorRootBZ
namespace Go.Proofs.YtppblbhkghjphaaGreatDoor
open Go.RowKit
open Lm

/-- An owned number, normal, of any size. -/
def Nb (w : World) (base : Nat) (v : Value) (x : Nat) : Prop := ∃ rs, Ans w base v rs ∧ val rs = x ∧ tr rs = rs

theorem Nb.below {w w' : World} {base : Nat} {v : Value} {x : Nat} (h : Nb w base v x) (hb : Below w.heap.size w w') : Nb w' base v x := by
  obtain ⟨rs, h1, h2⟩ := h
  exact ⟨rs, h1.below hb, h2⟩

theorem Nb.base {w : World} {base base' : Nat} {v : Value} {x : Nat} (h : Nb w base v x) (hb : base' ≤ base) : Nb w base' v x := by
  obtain ⟨rs, h1, h2⟩ := h
  exact ⟨rs, h1.base hb, h2⟩

theorem Nb.arg {w : World} {base : Nat} {v : Value} {x : Nat} (h : Nb w base v x) (hb : blen x ≤ 1125899906816000) : ∃ rs, Arg w v rs ∧ val rs = x ∧ tr rs = rs ∧ rs.length ≤ 17592186044000 := by
  obtain ⟨rs, h1, h2, h3⟩ := h
  have hl : rs.length ≤ 17592186044000 := few_of h3 h2 (by omega)
  exact ⟨rs, h1.arg (by omega), h2, h3, hl⟩

/-- What the inner functions answer. -/
def NbDone (w : World) (x : Nat) (e : Ending) (w' : World) : Prop := (∃ v, e = .returned v ∧ Nb w' w.heap.size v x) ∧ Below w.heap.size w w'

theorem NumDone.nb {w : World} {x : Nat} {e : Ending} {w' : World} (h : NumDone w x e w') : NbDone w x e w' := by
  obtain ⟨⟨v, rs, rfl, h1, h2, h3⟩, hb⟩ := h
  exact ⟨⟨v, rfl, rs, h1, h2, h3⟩, hb⟩

def NbDone2 (w : World) (x y : Nat) (e : Ending) (w' : World) : Prop := (∃ v1 v2, e = .returned (.tuple #[v1, v2]) ∧ Nb w' w.heap.size v1 x ∧ Nb w' w.heap.size v2 y) ∧ Below w.heap.size w w'

theorem NumDone2.nb {w : World} {x y : Nat} {e : Ending} {w' : World} (h : NumDone2 w x y e w') : NbDone2 w x y e w' := by
  obtain ⟨⟨v1, v2, r1, r2, rfl, h1, h2, h3, h4, h5, h6⟩, hb⟩ := h
  exact ⟨⟨v1, v2, rfl, ⟨r1, h1, h3, h4⟩, r2, h2, h5, h6⟩, hb⟩

theorem nsum {w : World} {b1 b2 : Nat} {v1 v2 : Value} {x y : Nat} (h1 : Nb w b1 v1 x) (h2 : Nb w b2 v2 y) (l1 : blen x ≤ 1125899906816000) (l2 : blen y ≤ 1125899906816000) : Calls Tryz.prog 63 #[v1, v2] w (NbDone w (x + y)) := by
  obtain ⟨r1, a1, rfl, _, n1⟩ := h1.arg l1
  obtain ⟨r2, a2, rfl, _, n2⟩ := h2.arg l2
  exact (rsum_any v1 v2 r1 r2 w a1 a2 (by omega) (by omega)).mono fun _ _ h => h.nb

theorem nless {w : World} {b1 b2 : Nat} {v1 v2 : Value} {x y : Nat} (h1 : Nb w b1 v1 x) (h2 : Nb w b2 v2 y) (l1 : blen x ≤ 1125899906816000) (hle : y ≤ x) : Calls Tryz.prog 89 #[v1, v2] w (NbDone w (x - y)) := by
  obtain ⟨r1, a1, rfl, _, n1⟩ := h1.arg l1
  obtain ⟨r2, a2, rfl, _, n2⟩ := h2.arg (Nat.le_trans (blen_mono hle) l1)
  exact (rless_any v1 v2 r1 r2 w a1 a2 (by omega) hle).mono fun _ _ h => h.nb

theorem njoin {w : World} {b1 b2 : Nat} {v1 v2 : Value} {x y n : Nat} (h1 : Nb w b1 v1 x) (h2 : Nb w b2 v2 y) (l1 : blen x ≤ 1125899906816000) (hn : n ≤ 1125899906816000) (hy : y < 2 ^ n) : Calls Tryz.prog 85 #[v1, .int .i64 n, v2] w (NbDone w (y + 2 ^ n * x)) := by
  obtain ⟨r1, a1, rfl, _, n1⟩ := h1.arg l1
  obtain ⟨r2, a2, rfl, t2, n2⟩ := h2.arg (Nat.le_trans ((blen_le_iff y n).2 hy) hn)
  exact (rjoin_any v1 v2 r1 r2 n w a1 a2 (by omega) (by omega) hy t2).mono fun _ _ h => h.nb

theorem nup {w : World} {b1 : Nat} {v1 : Value} {x n : Nat} (h1 : Nb w b1 v1 x) (l1 : blen x ≤ 1125899906816000) (hn : n ≤ 1125899906816000) : Calls Tryz.prog 87 #[v1, .int .i64 n] w (NbDone w (2 ^ n * x)) := by
  obtain ⟨r1, a1, rfl, _, n1⟩ := h1.arg l1
  exact (rup_any v1 r1 n w a1 (by omega) (by omega)).mono fun _ _ h => h.nb

theorem nprod {w : World} {b1 b2 : Nat} {v1 v2 : Value} {x y : Nat} (h1 : Nb w b1 v1 x) (h2 : Nb w b2 v2 y) (hT : Tab w) (l1 : blen x ≤ 1125899906816000) (l2 : blen y ≤ 1125899906816000) : Calls Tryz.prog 88 #[v1, v2] w (NbDone w (x * y)) := by
  obtain ⟨r1, a1, rfl, _, n1⟩ := h1.arg l1
  obtain ⟨r2, a2, rfl, _, n2⟩ := h2.arg l2
  exact (rproduct_any (r1.length + r2.length + 1) r1 r2 v1 v2 w (by omega) (by omega) a1 a2 hT).mono fun _ _ h => h.nb

theorem nboth {w : World} {b1 b2 : Nat} {v1 v2 : Value} {x y : Nat} (h1 : Nb w b1 v1 x) (h2 : Nb w b2 v2 y) (hT : Tab w) (l1 : blen x ≤ 1125899906816000) (l2 : blen y ≤ 1125899906816000) (hy : 0 < y) : Calls Tryz.prog 84 #[v1, v2] w (NbDone2 w (x / y) (x % y)) := by
  obtain ⟨r1, a1, rfl, _, n1⟩ := h1.arg l1
  obtain ⟨r2, a2, rfl, _, n2⟩ := h2.arg l2
  exact (rboth_any (blen (val r1)) r1 r2 v1 v2 w (by omega) a1 a2 hT (by omega) (by omega) hy).mono fun _ _ h => h.nb

theorem nfrom (x : Nat) (w : World) (hx : x < 18446744073709551616) : Calls Tryz.prog 21 #[.int .u64 (x : Int)] w (NbDone w x) := by
  refine (from_any x w hx).mono ?_
  rintro e w' ⟨⟨v, rfl, h⟩, hb⟩
  exact ⟨⟨v, rfl, tr [x], h, by rw [val_tr]; simp [val], tr_tr _⟩, hb⟩

namespace Lm

/-- One step of the second root: what it makes of the root of the higher half. -/
theorem second_step {a s u q r n a1 a0 : Nat} (hA : a = (s * s + u) * (2 ^ n * 2 ^ n) + a1 * 2 ^ n + a0) (hu : u ≤ 2 * s) (h1 : a1 < 2 ^ n) (h0 : a0 < 2 ^ n) (hs : 2 ^ n ≤ 2 * s) (hq : (a1 + 2 ^ n * u) / (2 * s) = q) (hr : (a1 + 2 ^ n * u) % (2 * s) = r) :
    (2 ^ n * s + q) * (2 ^ n * s + q) + (a0 + 2 ^ n * r) = a + q * q ∧ a0 + 2 ^ n * r ≤ 2 * (2 ^ n * s + q) ∧ q ≤ 2 ^ n ∧ q * q ≤ 2 * (2 ^ n * s + q) - 1 := by
  have hsp : 0 < 2 * s := by have := Nat.two_pow_pos n; omega
  have hdm := Nat.div_add_mod (a1 + 2 ^ n * u) (2 * s)
  have hrl := Nat.mod_lt (a1 + 2 ^ n * u) hsp
  rw [hq, hr] at hdm
  rw [hr] at hrl
  have hqn : q ≤ 2 ^ n := by
    rw [← hq]
    refine Nat.le_of_lt_succ ?_
    rw [Nat.div_lt_iff_lt_mul hsp]
    have h2 : 2 ^ n * u ≤ 2 ^ n * (2 * s) := Nat.mul_le_mul_left _ hu
    rw [Nat.succ_mul]
    omega
  generalize 2 ^ n = K at *
  have hKs : K * K ≤ 2 * (K * s) := by
    have := Nat.mul_le_mul_left K hs
    rw [show K * (2 * s) = 2 * (K * s) by rw [← Nat.mul_assoc, Nat.mul_comm K 2, Nat.mul_assoc]] at this
    exact this
  have hqq : q * q ≤ K * K := Nat.mul_le_mul hqn hqn
  have hKp : 0 < K := by omega
  refine ⟨?_, ?_, hqn, ?_⟩
  · have e1 : (K * s + q) * (K * s + q) = s * s * (K * K) + 2 * s * q * K + q * q := by grind
    have e2 : (s * s + u) * (K * K) = s * s * (K * K) + K * u * K := by grind
    have e3 : (2 * s * q + r) * K = (a1 + K * u) * K := by rw [hdm]
    rw [Nat.add_mul, Nat.add_mul] at e3
    rw [hA, e1, e2, Nat.mul_comm K r]
    omega
  · have h2 : K * r ≤ K * (2 * s - 1) := Nat.mul_le_mul_left _ (by omega)
    have h3 : K * (2 * s - 1) + K = 2 * (K * s) := by
      obtain ⟨t, ht⟩ : ∃ t, 2 * s = t + 1 := ⟨2 * s - 1, by omega⟩
      have h4 : K * (2 * s) = 2 * (K * s) := by rw [← Nat.mul_assoc, Nat.mul_comm K 2, Nat.mul_assoc]
      rw [← h4, ht, Nat.add_sub_cancel, Nat.mul_add, Nat.mul_one]
    omega
  · rcases Nat.eq_zero_or_pos q with h | h
    · rw [h]; omega
    · omega

/-- Where it ends at once, and where it is one too far. -/
theorem second_end {a R l Q : Nat} (he : R * R + l = a + Q) (hl : l ≤ 2 * R) (hQ : Q ≤ 2 * R - 1) (hR : 0 < R) :
    (Q ≤ l → IsRoot2 a R ∧ l - Q = a - R * R) ∧ (l < Q → Q ≤ l + (1 + 2 * (R - 1)) ∧ IsRoot2 a (R - 1) ∧ l + (1 + 2 * (R - 1)) - Q = a - (R - 1) * (R - 1)) := by
  obtain ⟨t, rfl⟩ : ∃ t, R = t + 1 := ⟨R - 1, by omega⟩
  rw [Nat.add_sub_cancel]
  have e1 : (t + 1) * (t + 1) = t * t + 2 * t + 1 := by grind
  have e2 : (t + 1 + 1) * (t + 1 + 1) = t * t + 4 * t + 4 := by grind
  unfold IsRoot2
  rw [e1] at he
  rw [e2, e1]
  refine ⟨fun h => ⟨⟨by omega, by omega⟩, by omega⟩, fun h => ⟨by omega, ⟨by omega, by omega⟩, by omega⟩⟩

end Lm

end Go.Proofs.YtppblbhkghjphaaGreatDoor

/- Package roots: second. -/
namespace Go.Proofs.YtppblbhkghjphaaGreatDoor
open Go.RowKit
open Lm
attribute [local go_sem ↓] Go.wp_at_zero Go.wp_at_succ

theorem second_zero (vb : Value) (X : List Nat) (w : World) (hA : Arg w vb X) (hX : val X = 0) :
    Calls Tryz.prog 62 #[vb] w (NbDone2 w 0 0) := by
  have HS := small_any vb X w hA
  have ht : tr X = [] := val_zero (tr_tr X) (by rw [val_tr]; exact hX)
  rw [ht] at HS
  have HS2 : Calls Tryz.prog 81 #[vb] w fun e w' => e = .returned (.tuple #[.int .u64 0, .bool true]) ∧ w' = w := HS
  have HF := nfrom 0 w (by omega)
  clear HS hA ht
  go_enter Tryz.func62, Tryz.ntmps62
  go_wp2_with fail
  refine HS2.mono ?_
  rintro e wn ⟨rfl, hw⟩; rw [hw]; clear hw wn HS2
  have HL : Calls Tryz.prog 82 #[.int .u64 0] w fun e w' => e = .returned (.int .u64 0) ∧ w' = w := by
    go_enter Tryz.func82, Tryz.ntmps82
    go_wp2
    go_ret
    exact ⟨rfl, rfl⟩
  go_wp2_with fail
  refine HL.mono ?_
  rintro e wn ⟨rfl, hw⟩; rw [hw]; clear hw wn HL
  go_wp2_with fail
  refine HF.mono ?_
  rintro e w1 ⟨⟨v1, rfl, n1⟩, hb1⟩
  have HF2 := nfrom 0 w1 (by omega)
  have H1 := hide (And.intro n1 hb1)
  clear n1 hb1 HF
  go_wp2_with fail
  refine HF2.mono ?_
  rintro e w2 ⟨⟨v2, rfl, n2⟩, hb2⟩
  have HD := hide (show NbDone2 w 0 0 (.returned (.tuple #[v1, v2])) w2 from ⟨⟨v1, v2, rfl, H1.out.1.below hb2, n2.base H1.out.2.size⟩, H1.out.2.trans (hb2.mono H1.out.2.size)⟩)
  clear n2 hb2
  go_wp2
  go_returns
  exact HD.out

theorem ncmp {w : World} {b1 b2 : Nat} {v1 v2 : Value} {x y : Nat} (h1 : Nb w b1 v1 x) (h2 : Nb w b2 v2 y) (l1 : blen x ≤ 1125899906816000) (l2 : blen y ≤ 1125899906816000) : Calls Tryz.prog 44 #[v1, v2] w fun e w' => e = .returned (.int .i64 (cmpN x y)) ∧ Same w w' := by
  obtain ⟨r1, a1, rfl, _, n1⟩ := h1.arg l1
  obtain ⟨r2, a2, rfl, _, n2⟩ := h2.arg l2
  exact compare_any v1 v2 r1 r2 w a1 a2

namespace Lm

theorem cmpN_ge {x y : Nat} (h : y ≤ x) : (0 : Int) ≤ cmpN x y := by
  unfold cmpN
  rw [if_neg (by omega)]
  split <;> omega

theorem blen_le4 {x y : Nat} (h : y ≤ 8 * x) : blen y ≤ blen x + 3 := by
  refine (blen_le_iff _ _).2 ?_
  have h1 := (blen_le_iff x _).1 (Nat.le_refl _)
  rw [Nat.pow_add]
  omega

/-- The halves of a great number, and the root of the higher one. -/
theorem second_halves {x n s : Nat} (hL : 4 * n ≤ blen x + 1) (hn : 1 ≤ n) (hs : IsRoot2 (x / 2 ^ (2 * n)) s) :
    x = (s * s + (x / 2 ^ (2 * n) - s * s)) * (2 ^ n * 2 ^ n) + x / 2 ^ n % 2 ^ n * 2 ^ n + x % 2 ^ n ∧ x / 2 ^ (2 * n) - s * s ≤ 2 * s ∧ 2 ^ n ≤ 2 * s ∧ 2 ^ n ≤ x ∧ 2 ^ n * (x / 2 ^ (2 * n)) ≤ x ∧ s ≤ x / 2 ^ (2 * n) := by
  have hx0 : x ≠ 0 := by
    rintro rfl
    rw [show blen 0 = 0 from (blen_zero_iff 0).2 rfl] at hL
    omega
  have hp := blen_pow_le x hx0
  have e2 : 2 ^ (2 * n) = 2 ^ n * 2 ^ n := by rw [← Nat.pow_add]; congr 1; omega
  have hkx : 2 ^ n ≤ x := Nat.le_trans (Nat.pow_le_pow_right (by omega) (by omega)) hp
  have hA : 2 ^ (2 * n - 2) ≤ x / 2 ^ (2 * n) := by
    rw [Nat.le_div_iff_mul_le (Nat.two_pow_pos _), ← Nat.pow_add]
    exact Nat.le_trans (Nat.pow_le_pow_right (by omega) (by omega)) hp
  have e3 : 2 ^ n = 2 * 2 ^ (n - 1) := by rw [← Nat.pow_succ']; congr 1; omega
  have e4 : 2 ^ (2 * n - 2) = 2 ^ (n - 1) * 2 ^ (n - 1) := by rw [← Nat.pow_add]; congr 1; omega
  obtain ⟨s1, s2⟩ := hs
  have e5 : (s + 1) * (s + 1) = s * s + 2 * s + 1 := by grind
  have hm1 := Nat.div_add_mod x (2 ^ n)
  have hm2 := Nat.div_add_mod (x / 2 ^ n) (2 ^ n)
  rw [Nat.div_div_eq_div_mul, ← e2] at hm2
  have hss : s ≤ s * s := by
    rcases Nat.eq_zero_or_pos s with h | h
    · rw [h]; exact Nat.le_refl _
    · exact Nat.le_mul_of_pos_left s h
  refine ⟨?_, by omega, ?_, hkx, ?_, by omega⟩
  · rw [Nat.add_sub_cancel' s1]
    generalize x / 2 ^ (2 * n) = A at *
    generalize x / 2 ^ n % 2 ^ n = b at *
    generalize x / 2 ^ n = c at *
    generalize x % 2 ^ n = d at *
    generalize 2 ^ n = K at *
    rw [← hm1, ← hm2]
    grind
  · refine Nat.le_of_not_lt fun hlt => ?_
    rw [e3] at hlt
    have h1 : s + 1 ≤ 2 ^ (n - 1) := by omega
    have h2 := Nat.mul_le_mul h1 h1
    rw [e4] at hA
    omega
  · have h1 : x / 2 ^ (2 * n) ≤ x / 2 ^ n := by rw [e2, ← Nat.div_div_eq_div_mul]; exact Nat.div_le_self _ _
    have h2 := Nat.mul_le_mul_left (2 ^ n) h1
    omega

end Lm

set_option maxRecDepth 20000 in
set_option maxHeartbeats 4000000 in
theorem rsecond_any : ∀ (N : Nat) (X : List Nat) (va : Value) (w : World) (s : Nat), blen (val X) ≤ N → blen (val X) ≤ 1125899906815900 → Arg w va X → Tab w → X.length ≤ 17592186044000 → IsRoot2 (val X) s →
    Calls Tryz.prog 62 #[va] w (NbDone2 w s (val X - s * s)) := by
  intro N
  induction N with
  | zero =>
    intro X va w s hN hxb hA hT hx hs
    have h0 : val X = 0 := (blen_zero_iff _).1 (by omega)
    have hs0 : s = 0 := by
      refine root2_uniq hs ?_
      rw [h0]; exact ⟨Nat.le_refl _, by omega⟩
    rw [hs0, h0]
    exact second_zero va X w hA h0
  | succ N ih =>
    intro X va w s hN hxb hA hT hx hs
    by_cases hsm : (tr X).length ≤ 1
    · by_cases h0 : val X = 0
      · have hs0 : s = 0 := by
          refine root2_uniq hs ?_
          rw [h0]; exact ⟨Nat.le_refl _, by omega⟩
        rw [hs0, h0]
        exact second_zero va X w hA h0
      · exact (second_small va X s w hA (by omega) hsm hs).mono fun e w' h => NumDone2.nb h
    · have HS := small_any va X w hA
      rw [if_neg hsm, decide_eq_false hsm] at HS
      have L1 := length_val _ _ w hA
      have hbx : blen (val X) ≤ X.length * 64 := (blen_le_iff _ _).2 (by have := val_lt hA.limbs; rw [W_pow] at this; exact this)
      have hb64 : 64 < blen (val X) := by
        refine Nat.lt_of_not_le fun h => hsm ?_
        exact few_limbs X 1 (by omega)
      obtain ⟨n, hn⟩ : ∃ n, (blen (val X) + 1) / 4 = n := ⟨_, rfl⟩
      obtain ⟨t, ht⟩ : ∃ t, IsRoot2 (val X / 2 ^ (2 * n)) t := root2_is _
      obtain ⟨P1, P2, P3, P4, P5, P6⟩ := second_halves (x := val X) (n := n) (s := t) (by omega) (by omega) ht
      obtain ⟨u, hu⟩ : ∃ u, val X / 2 ^ (2 * n) - t * t = u := ⟨_, rfl⟩
      rw [hu] at P1 P2
      have h1l : val X / 2 ^ n % 2 ^ n < 2 ^ n := Nat.mod_lt _ (Nat.two_pow_pos n)
      have h0l : val X % 2 ^ n < 2 ^ n := Nat.mod_lt _ (Nat.two_pow_pos n)
      have HDN := rdown_any va X (2 * n) w hA (by omega) (by omega)
      have hul : u ≤ val X / 2 ^ (2 * n) := by omega
      have hA1x : val X / 2 ^ (2 * n) ≤ val X := Nat.div_le_self _ _
      have hblA : blen (val X / 2 ^ (2 * n)) ≤ N := by
        refine Nat.le_trans ((blen_le_iff _ (blen (val X) - 2 * n)).2 ?_) (by omega)
        rw [Nat.div_lt_iff_lt_mul (Nat.two_pow_pos _), ← Nat.pow_add, show blen (val X) - 2 * n + 2 * n = blen (val X) by omega]
        exact (blen_le_iff _ _).1 (Nat.le_refl _)
      obtain ⟨a1, ha1⟩ : ∃ a1, val X / 2 ^ n % 2 ^ n = a1 := ⟨_, rfl⟩
      obtain ⟨a0, ha0⟩ : ∃ a0, val X % 2 ^ n = a0 := ⟨_, rfl⟩
      rw [ha1] at P1 h1l
      rw [ha0] at P1 h0l
      obtain ⟨q, hq⟩ : ∃ q, (a1 + 2 ^ n * u) / (2 * t) = q := ⟨_, rfl⟩
      obtain ⟨r, hr⟩ : ∃ r, (a1 + 2 ^ n * u) % (2 * t) = r := ⟨_, rfl⟩
      obtain ⟨S1, S2, S3, S4⟩ := second_step P1 P2 h1l h0l P3 hq hr
      have htp : 0 < t := by have := Nat.two_pow_pos n; omega
      have hKu : 2 ^ n * u ≤ val X := Nat.le_trans (Nat.mul_le_mul_left _ hul) P5
      have hKt : 2 ^ n * t ≤ val X := Nat.le_trans (Nat.mul_le_mul_left _ P6) P5
      have hrb : r ≤ 2 * t := by rw [← hr]; exact Nat.le_of_lt (Nat.mod_lt _ (by omega))
      obtain ⟨R, hR⟩ : ∃ R, 2 ^ n * t + q = R := ⟨_, rfl⟩
      obtain ⟨l, hl⟩ : ∃ l, a0 + 2 ^ n * r = l := ⟨_, rfl⟩
      rw [hR, hl] at S1 S2
      rw [hR] at S4
      have hRp : 0 < R := by
        have := Nat.mul_pos (Nat.two_pow_pos n) htp
        omega
      have hRb : R ≤ 2 * val X := by omega
      obtain ⟨E1, E2⟩ := second_end S1 S2 S4 hRp
      have B : Hid (∀ y, y ≤ 8 * val X → blen y ≤ 1125899906816000) := hide fun y hy => by
        have := blen_le4 hy
        omega
      have BB : Hid (u ≤ 8 * val X ∧ t ≤ 8 * val X ∧ a1 + 2 ^ n * u ≤ 8 * val X ∧ 2 ^ 1 * t ≤ 8 * val X ∧ 2 ^ n * t ≤ 8 * val X ∧ q ≤ 8 * val X ∧ r ≤ 8 * val X ∧ R ≤ 8 * val X ∧ l ≤ 8 * val X) := hide ⟨by omega, by omega, by omega, by omega, by omega, by omega, by omega, by omega, by omega⟩
      have HXB : Hid (∀ m, blen (val X / m) ≤ 1125899906815900) := hide fun m => Nat.le_trans (blen_mono (Nat.div_le_self _ _)) hxb
      have HA := hide hA
      have HT := hide hT
      have HIH := hide ih
      have HE := hide (And.intro E1 E2)
      have HX := hide (And.intro ht (And.intro hu (And.intro ha1 (And.intro ha0 (And.intro hq (And.intro hr (And.intro hR (And.intro hl (And.intro h1l (And.intro h0l (And.intro htp hblA)))))))))))
      have HSS := hide hs
      have HQQ := hide (And.intro S4 hRb)
      obtain ⟨n2, hn2⟩ : ∃ n2, 2 * n = n2 := ⟨_, rfl⟩
      have en : (((blen (val X) : Nat) : Int) + 1) / 4 = (n : Int) := by omega
      have en2 : (2 : Int) * (n : Int) = (n2 : Int) := by omega
      have hnb : n ≤ 281474976710656 := by omega
      rw [hn2] at HDN
      have HN2 := hide hn2
      clear P1 P2 P3 P4 P5 P6 S1 S2 S3 S4 E1 E2 hA hT ih hs ht hu ha1 ha0 hq hr hR hl h1l h0l htp hblA hul hA1x hKu hKt hrb hn hn2 hRp hRb hsm
      generalize hlx : blen (val X) = lx at *
      clear hlx
      have HB : Hid (Below w.heap.size w w) := Below.refl _ _
      go_enter Tryz.func62, Tryz.ntmps62
      go_wp2_with fail
      refine HS.mono ?_
      rintro e wn ⟨rfl, hw⟩; rw [hw]; clear hw wn HS
      go_wp2_with fail
      refine L1.mono ?_
      rintro e wn ⟨rfl, hw⟩; rw [hw]; clear hw wn L1
      go_wp2_with fail
      refine HDN.mono ?_
      rintro e w1 ⟨⟨v1, r1, rfl, d1, p1, t1⟩, hb⟩
      replace HB := hide (HB.out.trans (hb.mono HB.out.size))
      obtain ⟨ht, hu, ha1, ha0, hq, hr, hR, hl, h1l, h0l, htp, hblA⟩ := HX.out
      obtain ⟨bu, bt, bj, b2t, bkt, bq, br, bR, bl⟩ := BB.out
      have lr1 : r1.length ≤ X.length := by
        rw [← t1]
        refine tr_len_lt r1 _ ?_
        rw [p1]
        exact Nat.lt_of_le_of_lt (Nat.div_le_self _ _) (val_lt HA.out.limbs)
      have F1 := HIH.out r1 v1 w1 t (by rw [p1, ← HN2.out]; exact hblA) (by rw [p1]; exact HXB.out _) (d1.arg (by omega)) (HT.out.below HB.out) (by omega) (by rw [p1, ← HN2.out]; exact ht)
      rw [p1, ← HN2.out, hu] at F1
      clear d1 p1 t1 hb HDN HIH ht hu hblA lr1
      go_wp2_with fail
      refine F1.mono ?_
      rintro e w2 ⟨⟨vt, vu, rfl, Nt, Nu⟩, hb⟩
      replace HB := hide (HB.out.trans (hb.mono HB.out.size))
      clear hb F1
      have F1 := (rbits_any va X n n w2 (HA.out.below HB.out) (by omega) (by omega) (by omega)).mono fun _ _ h => h.nb
      rw [ha1] at F1
      go_wp2_with fail
      refine F1.mono ?_
      rintro e w3 ⟨⟨va1, rfl, Na1⟩, hb⟩
      replace Na1 := Na1.base HB.out.size
      replace HB := hide (HB.out.trans (hb.mono HB.out.size))
      replace Nt := Nt.below hb; replace Nu := Nu.below hb; clear hb F1
      have F1 := njoin (n := n) Nu Na1 (B.out _ bu) (by omega) h1l
      clear Nu Na1
      go_wp2_with fail
      refine F1.mono ?_
      rintro e w4 ⟨⟨vj, rfl, Nj⟩, hb⟩
      replace Nj := Nj.base HB.out.size
      replace HB := hide (HB.out.trans (hb.mono HB.out.size))
      replace Nt := Nt.below hb; clear hb F1
      have F1 := nup (n := 1) Nt (B.out _ bt) (by omega)
      go_wp2_with fail
      refine F1.mono ?_
      rintro e w5 ⟨⟨v2t, rfl, N2t⟩, hb⟩
      replace N2t := N2t.base HB.out.size
      replace HB := hide (HB.out.trans (hb.mono HB.out.size))
      replace Nt := Nt.below hb; replace Nj := Nj.below hb; clear hb F1
      have F1 := nboth Nj N2t (HT.out.below HB.out) (B.out _ bj) (B.out _ b2t) (by rw [Nat.pow_one]; omega)
      rw [Nat.pow_one, hq, hr] at F1
      clear Nj N2t
      go_wp2_with fail
      refine F1.mono ?_
      rintro e w6 ⟨⟨vq, vr, rfl, Nq, Nr⟩, hb⟩
      replace HB := hide (HB.out.trans (hb.mono HB.out.size))
      replace Nt := Nt.below hb; clear hb F1
      have F1 := nup (n := n) Nt (B.out _ bt) (by omega)
      clear Nt
      go_wp2_with fail
      refine F1.mono ?_
      rintro e w7 ⟨⟨vkt, rfl, Nkt⟩, hb⟩
      replace Nkt := Nkt.base HB.out.size
      replace HB := hide (HB.out.trans (hb.mono HB.out.size))
      replace Nq := Nq.below hb; replace Nr := Nr.below hb; clear hb F1
      have F1 := nsum Nkt Nq (B.out _ bkt) (B.out _ bq)
      rw [hR] at F1
      clear Nkt
      go_wp2_with fail
      refine F1.mono ?_
      rintro e w8 ⟨⟨vR, rfl, NR⟩, hb⟩
      replace NR := NR.base HB.out.size
      replace HB := hide (HB.out.trans (hb.mono HB.out.size))
      replace Nq := Nq.below hb; replace Nr := Nr.below hb; clear hb F1
      have F1 := (rbits_any va X 0 n w8 (HA.out.below HB.out) (by omega) (by omega) (by omega)).mono fun _ _ h => h.nb
      rw [Nat.pow_zero, Nat.div_one, ha0] at F1
      go_wp2_with fail
      refine F1.mono ?_
      rintro e w9 ⟨⟨va0, rfl, Na0⟩, hb⟩
      replace Na0 := Na0.base HB.out.size
      replace HB := hide (HB.out.trans (hb.mono HB.out.size))
      replace Nq := Nq.below hb; replace Nr := Nr.below hb; replace NR := NR.below hb; clear hb F1
      have F1 := njoin (n := n) Nr Na0 (B.out _ br) (by omega) h0l
      rw [hl] at F1
      clear Nr Na0
      go_wp2_with fail
      refine F1.mono ?_
      rintro e w10 ⟨⟨vl, rfl, Nl⟩, hb⟩
      replace Nl := Nl.base HB.out.size
      replace HB := hide (HB.out.trans (hb.mono HB.out.size))
      replace Nq := Nq.below hb; replace NR := NR.below hb; clear hb F1
      have F1 := nprod Nq Nq (HT.out.below HB.out) (B.out _ bq) (B.out _ bq)
      clear Nq
      go_wp2_with fail
      refine F1.mono ?_
      rintro e w11 ⟨⟨vQ, rfl, NQ⟩, hb⟩
      replace NQ := NQ.base HB.out.size
      replace HB := hide (HB.out.trans (hb.mono HB.out.size))
      replace NR := NR.below hb; replace Nl := Nl.below hb; clear hb F1
      clear ha1 ha0 hq hr hR hl h1l h0l htp bu bt bj b2t bkt bq br HX BB
      have hQb := HQQ.out
      obtain ⟨Q, hQ⟩ : ∃ Q, q * q = Q := ⟨_, rfl⟩
      rw [hQ] at NQ HE hQb
      have bQ : Q ≤ 8 * val X := by omega
      by_cases hfin : Q ≤ l
      · obtain ⟨E1, E2⟩ := HE.out.1 hfin
        have es : s = R := root2_uniq HSS.out E1
        have hc : (0 : Int) ≤ cmpN l Q := cmpN_ge hfin
        have GG : Hid (R = s ∧ l - Q = val X - s * s) := hide ⟨es.symm, by rw [es]; exact E2⟩
        clear HE HSS HQQ E1 E2 hQ hQb es
        go_wp2
        refine wp_loop_rounds 1 ?_
        rw [rounds_succ]
        have F1 := ncmp Nl NQ (B.out _ bl) (B.out _ bQ)
        go_wp2_with fail
        refine F1.mono ?_
        rintro e w20 ⟨rfl, hsm⟩
        have hb := hsm.below w11.heap.size
        replace HB := hide (HB.out.trans (hb.mono HB.out.size))
        replace NR := NR.below hb; replace Nl := Nl.below hb; replace NQ := NQ.below hb; clear hb F1 hsm
        have F1 := nless Nl NQ (B.out _ bl) (by omega)
        clear Nl NQ
        go_wp2_with fail
        refine F1.mono ?_
        rintro e w21 ⟨⟨vz, rfl, Nz⟩, hb⟩
        have HD := hide (show NbDone2 w s (val X - s * s) (.returned (.tuple #[vR, vz])) w21 from ⟨⟨vR, vz, rfl, by rw [← GG.out.1]; exact NR.below hb, by rw [← GG.out.2]; exact Nz.base HB.out.size⟩, HB.out.trans (hb.mono HB.out.size)⟩)
        clear NR Nz hb F1
        go_wp2
        go_returns
        exact HD.out
      · obtain ⟨E0, E1, E2⟩ := HE.out.2 (by omega)
        have es : s = R - 1 := root2_uniq HSS.out E1
        have hc : ¬ (0 : Int) ≤ cmpN l Q := by rw [cmpN_lt (by omega)]; omega
        have bl2 : l + (1 + 2 * (R - 1)) ≤ 8 * val X + 8 * val X := by omega
        have GG : Hid (R - 1 = s ∧ l + (1 + 2 * (R - 1)) - Q = val X - s * s) := hide ⟨es.symm, by rw [es]; exact E2⟩
        clear HE HSS HQQ E1 E2 hQ es
        go_wp2
        refine wp_loop_rounds 2 ?_
        rw [rounds_succ]
        have F1 := ncmp Nl NQ (B.out _ bl) (B.out _ bQ)
        go_wp2_with fail
        refine F1.mono ?_
        rintro e w12 ⟨rfl, hsm⟩
        have hb := hsm.below w11.heap.size
        replace HB := hide (HB.out.trans (hb.mono HB.out.size))
        replace NR := NR.below hb; replace Nl := Nl.below hb; replace NQ := NQ.below hb; clear hb F1 hsm
        have F1 := nfrom 1 w12 (by omega)
        go_wp2_with fail
        refine F1.mono ?_
        rintro e w13 ⟨⟨vo, rfl, No⟩, hb⟩
        replace No := No.base HB.out.size
        replace HB := hide (HB.out.trans (hb.mono HB.out.size))
        replace NR := NR.below hb; replace Nl := Nl.below hb; replace NQ := NQ.below hb; clear hb F1
        have F1 := nless NR No (B.out _ bR) (by omega)
        clear NR No
        go_wp2_with fail
        refine F1.mono ?_
        rintro e w14 ⟨⟨vR2, rfl, NR2⟩, hb⟩
        replace NR2 := NR2.base HB.out.size
        replace HB := hide (HB.out.trans (hb.mono HB.out.size))
        replace Nl := Nl.below hb; replace NQ := NQ.below hb; clear hb F1
        have F1 := nfrom 1 w14 (by omega)
        go_wp2_with fail
        refine F1.mono ?_
        rintro e w15 ⟨⟨vo2, rfl, No2⟩, hb⟩
        replace No2 := No2.base HB.out.size
        replace HB := hide (HB.out.trans (hb.mono HB.out.size))
        replace NR2 := NR2.below hb; replace Nl := Nl.below hb; replace NQ := NQ.below hb; clear hb F1
        have F1 := njoin (n := 1) NR2 No2 (B.out _ (by omega)) (by omega) (by omega)
        rw [Nat.pow_one] at F1
        clear No2
        go_wp2_with fail
        refine F1.mono ?_
        rintro e w16 ⟨⟨vj2, rfl, Nj2⟩, hb⟩
        replace Nj2 := Nj2.base HB.out.size
        replace HB := hide (HB.out.trans (hb.mono HB.out.size))
        replace NR2 := NR2.below hb; replace Nl := Nl.below hb; replace NQ := NQ.below hb; clear hb F1
        have F1 := nsum Nl Nj2 (B.out _ bl) (B.out _ (by omega))
        clear Nl Nj2
        go_wp2_with fail
        refine F1.mono ?_
        rintro e w17 ⟨⟨vl2, rfl, Nl2⟩, hb⟩
        replace Nl2 := Nl2.base HB.out.size
        replace HB := hide (HB.out.trans (hb.mono HB.out.size))
        replace NR2 := NR2.below hb; replace NQ := NQ.below hb; clear hb F1
        obtain ⟨l2, hl2⟩ : ∃ l2, l + (1 + 2 * (R - 1)) = l2 := ⟨_, rfl⟩
        obtain ⟨R2, hR2⟩ : ∃ R2, R - 1 = R2 := ⟨_, rfl⟩
        rw [hR2] at hl2 NR2
        rw [hR2, hl2] at Nl2 E0 bl2 GG
        have hc2 : (0 : Int) ≤ cmpN l2 Q := cmpN_ge E0
        have bl3 : l2 ≤ 8 * val X := by omega
        clear hl2 hR2 bl2
        go_wp2
        rw [rounds_succ]
        have F1 := ncmp Nl2 NQ (B.out _ bl3) (B.out _ bQ)
        go_wp2_with fail
        refine F1.mono ?_
        rintro e w20 ⟨rfl, hsm⟩
        have hb := hsm.below w17.heap.size
        replace HB := hide (HB.out.trans (hb.mono HB.out.size))
        replace NR2 := NR2.below hb; replace Nl2 := Nl2.below hb; replace NQ := NQ.below hb; clear hb F1 hsm
        have F1 := nless Nl2 NQ (B.out _ bl3) (by omega)
        clear Nl2 NQ
        go_wp2_with fail
        refine F1.mono ?_
        rintro e w21 ⟨⟨vz, rfl, Nz⟩, hb⟩
        have HD := hide (show NbDone2 w s (val X - s * s) (.returned (.tuple #[vR2, vz])) w21 from ⟨⟨vR2, vz, rfl, by rw [← GG.out.1]; exact NR2.below hb, by rw [← GG.out.2]; exact Nz.base HB.out.size⟩, HB.out.trans (hb.mono HB.out.size)⟩)
        clear NR2 Nz hb F1
        go_wp2
        go_returns
        exact HD.out

end Go.Proofs.YtppblbhkghjphaaGreatDoor

/- Package roots: answers, Sqrt. -/
namespace Go.Proofs.YtppblbhkghjphaaGreatDoor
open Go.RowKit
open Lm
attribute [local go_sem ↓] Go.wp_at_zero Go.wp_at_succ

/-- Two owned numbers, or that one is too big. -/
def Tell2 (w : World) (base : Nat) (e : Ending) (x y : Nat) : Prop :=
  (blen x ≤ 67108864 ∧ blen y ≤ 67108864 ∧ ∃ v1 v2, e = .returned (.tuple #[v1, v2, .int .i64 0]) ∧ Nb w base v1 x ∧ Nb w base v2 y) ∨
  ((67108864 < blen x ∨ 67108864 < blen y) ∧ e = .returned (.tuple #[.slice none 0 0, .slice none 0 0, .int .i64 3]))

theorem ranswers_any (v1 v2 : Value) (b1 b2 : Nat) (x y : Nat) (w : World) (h1 : Nb w b1 v1 x) (h2 : Nb w b2 v2 y) (hx : blen x ≤ 67108864) (ly : blen y ≤ 1125899906816000) :
    Calls Tryz.prog 61 #[v1, v2] w fun e w' => w' = w ∧ Tell2 w (min b1 b2) e x y := by
  obtain ⟨r2, a2, p2, t2⟩ := h2
  have l2 : r2.length ≤ 17592186044000 := few_of t2 p2 (by omega)
  have HA := ranswer_any v2 b2 r2 w a2 (by omega) t2
  rw [p2] at HA
  have H1 := hide h1
  clear h1 a2
  go_enter Tryz.func61, Tryz.ntmps61
  go_wp2_with fail
  refine HA.mono ?_
  rintro e w1 ⟨hw, v, c, rs, rfl, ha, hres⟩
  subst hw
  rcases hres with ⟨rfl, q1, q2, q3⟩ | ⟨rfl, rfl, q3⟩
  · have HD := hide (And.intro ha (And.intro q1 q2))
    clear ha q1 q2 HA
    go_wp2
    go_returns
    exact ⟨rfl, .inl ⟨hx, q3, _, _, rfl, H1.out.base (Nat.min_le_left _ _), (show Nb _ b2 v y from ⟨rs, HD.out.1, HD.out.2.1, HD.out.2.2⟩).base (Nat.min_le_right _ _)⟩⟩
  · clear ha HA
    go_wp2
    go_returns
    exact ⟨rfl, .inr ⟨.inr q3, rfl⟩⟩

namespace Lm

theorem root2_len {x s : Nat} (h : IsRoot2 x s) : blen s = (blen x + 1) / 2 := by
  obtain ⟨h1, h2⟩ := h
  rcases Nat.eq_zero_or_pos s with h0 | h0
  · subst h0
    have hx : x = 0 := by omega
    rw [hx, show blen 0 = 0 from (blen_zero_iff 0).2 rfl]
  · have p1 := blen_pow_le s (by omega)
    have p2 := (blen_le_iff s _).1 (Nat.le_refl _)
    have hl : 0 < blen s := by
      rcases Nat.eq_zero_or_pos (blen s) with h | h
      · have := (blen_zero_iff s).1 h; omega
      · exact h
    obtain ⟨k, hk⟩ : ∃ k, blen s = k + 1 := ⟨blen s - 1, by omega⟩
    rw [hk] at p1 p2
    rw [Nat.add_sub_cancel] at p1
    have hlo : 2 ^ (k + k) ≤ x := by rw [Nat.pow_add]; exact Nat.le_trans (Nat.mul_le_mul p1 p1) h1
    have hhi : x < 2 ^ (k + 1 + (k + 1)) := by rw [Nat.pow_add]; exact Nat.lt_of_lt_of_le h2 (Nat.mul_le_mul p2 p2)
    have b1 : k + k < blen x := Nat.lt_of_not_le fun h => by have := (blen_le_iff x _).1 h; omega
    have b2 := (blen_le_iff x _).2 hhi
    omega

end Lm

set_option maxRecDepth 20000 in
theorem rsqrt_any (va : Value) (X : List Nat) (s : Nat) (w : World) (hA : Arg w va X) (hT : Tab w) (hx : X.length ≤ 17592186044000) (hs : IsRoot2 (val X) s) :
    Calls Tryz.prog 46 #[va] w fun e w' => Tell2 w' w.heap.size e s (val X - s * s) ∧ Below w.heap.size w w' := by
  have HL := rootLength_two va X w hA
  have hlen := root2_len hs
  rw [← hlen] at HL
  by_cases hb : blen s ≤ 67108864
  · have HS := rsecond_any (blen (val X)) X va w s (Nat.le_refl _) (by omega) hA hT hx hs
    have hbr : blen (val X - s * s) ≤ 1125899906816000 := by
      have := blen_mono (Nat.sub_le (val X) (s * s))
      omega
    clear hA hlen
    generalize val X - s * s = rest at *
    have i1 : ¬ (67108864 : Int) < ((blen s : Nat) : Int) := by omega
    have HB := hide hb
    generalize blen s = ls at HL i1
    go_enter Tryz.func46, Tryz.ntmps46
    go_wp2_with fail
    refine HL.mono ?_
    rintro e wn ⟨rfl, hw⟩; rw [hw]; clear hw wn HL
    go_wp2_with fail
    refine HS.mono ?_
    rintro e w1 ⟨⟨v1, v2, rfl, n1, n2⟩, hb1⟩
    have HA := ranswers_any v1 v2 w.heap.size w.heap.size s rest w1 n1 n2 HB.out hbr
    rw [Nat.min_self] at HA
    have HB1 := hide hb1
    clear n1 n2 hb1 HS
    go_wp2_with fail
    refine HA.mono ?_
    rintro e w2 ⟨hw, ht⟩
    subst hw
    rcases ht with ⟨q1, q2, v3, v4, rfl, n3, n4⟩ | ⟨q1, rfl⟩
    · have HD := hide (And.intro n3 n4)
      clear n3 n4 HA
      go_wp2
      go_returns
      exact ⟨.inl ⟨q1, q2, _, _, rfl, HD.out.1, HD.out.2⟩, HB1.out⟩
    · clear HA
      go_wp2
      go_returns
      exact ⟨.inr ⟨q1, rfl⟩, HB1.out⟩
  · have i1 : (67108864 : Int) < ((blen s : Nat) : Int) := by omega
    have HB := hide hb
    clear hA hlen
    generalize val X - s * s = rest at *
    generalize blen s = ls at HL i1
    go_enter Tryz.func46, Tryz.ntmps46
    go_wp2_with fail
    refine HL.mono ?_
    rintro e wn ⟨rfl, hw⟩; rw [hw]; clear hw wn HL
    go_wp2
    go_returns
    exact ⟨.inr ⟨.inl (by have := HB.out; omega), rfl⟩, Below.refl _ _⟩

end Go.Proofs.YtppblbhkghjphaaGreatDoor
