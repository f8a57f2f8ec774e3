/- Numbers that are not known to their last bit: plain facts. -/
import Derived.Test.YteecnckfkcmefaaGreatDoorQA
import Derived.Test.YteecnckfkcmefaaGreatDoorQU
import Derived.Test.YteecnckfkcmefaaGreatDoorQP
import Derived.Test.YteecnckfkcmefaaGreatDoorQF
import Derived.Test.YteecnckfkcmefaaGreatDoorQB
import Derived.Test.YteecnckfkcmefaaGreatDoorQH
import Derived.Deep.RegionHeld3
import Derived.BigQuiet
import Derived.Test.YteecnckfkcmefaaGreatDoorQM
import Derived.Test.YteecnckfkcmefaaGreatDoorQJ
namespace Go.Proofs.YteecnckfkcmefaaGreatDoor
namespace Lm

/-- l 2^e and h 2^e hold p between them; c tells how far they may be apart. -/
def AbtR (p c l h e : Nat) : Prop :=
  0 < l ∧ l * 2 ^ e ≤ p ∧ p ≤ h * 2 ^ e ∧ l ≤ h ∧ h * 2 ^ 250 ≤ l * 2 ^ 250 + c * h ∧ ((e = 0 ∧ l = h) ∨ 2 ^ 255 ≤ h)

/-- The same, cut. -/
def Abt (p c l h e : Nat) : Prop := AbtR p c l h e ∧ h ≤ 2 ^ 256

theorem abt_mul_rel {T lx hx ly hy cx cy : Nat} (h1 : hx * T ≤ lx * T + cx * hx) (h2 : hy * T ≤ ly * T + cy * hy) (l2 : ly ≤ hy) :
    hx * hy * T ≤ lx * ly * T + (cx + cy) * (hx * hy) := by
  have a1 := Nat.mul_le_mul_left hx h2
  have a2 := Nat.mul_le_mul_left ly h1
  have a3 := Nat.mul_le_mul_left (cx * hx) l2
  have e1 : hx * (hy * T) = hx * hy * T := by grind
  have e2 : hx * (ly * T + cy * hy) = ly * (hx * T) + cy * (hx * hy) := by grind
  have e3 : ly * (lx * T + cx * hx) = lx * ly * T + cx * hx * ly := by grind
  have e4 : (cx + cy) * (hx * hy) = cx * hx * hy + cy * (hx * hy) := by grind
  omega

theorem abt_mul {p q cx cy lx hx ex ly hy ey : Nat} (h1 : AbtR p cx lx hx ex) (h2 : AbtR q cy ly hy ey) : AbtR (p * q) (cx + cy) (lx * ly) (hx * hy) (ex + ey) := by
  obtain ⟨a0, a1, a2, a3, a4, a6⟩ := h1
  obtain ⟨b0, b1, b2, b3, b4, b6⟩ := h2
  refine ⟨Nat.mul_pos a0 b0, ?_, ?_, Nat.mul_le_mul a3 b3, abt_mul_rel a4 b4 b3, ?_⟩
  · have := Nat.mul_le_mul a1 b1
    rw [Nat.pow_add]
    have e : lx * 2 ^ ex * (ly * 2 ^ ey) = lx * ly * (2 ^ ex * 2 ^ ey) := by grind
    rw [← e]; exact this
  · have := Nat.mul_le_mul a2 b2
    rw [Nat.pow_add]
    have e : hx * 2 ^ ex * (hy * 2 ^ ey) = hx * hy * (2 ^ ex * 2 ^ ey) := by grind
    rw [← e]; exact this
  · have px : 0 < hx := Nat.lt_of_lt_of_le a0 a3
    have py : 0 < hy := Nat.lt_of_lt_of_le b0 b3
    rcases a6 with ⟨c1, c2⟩ | c1
    · rcases b6 with ⟨d1, d2⟩ | d1
      · exact .inl ⟨by omega, by rw [c2, d2]⟩
      · exact .inr (Nat.le_trans d1 (Nat.le_mul_of_pos_left _ px))
    · exact .inr (Nat.le_trans c1 (Nat.le_mul_of_pos_right _ py))

theorem abt_first {v : Nat} (hv : 0 < v) : AbtR v 0 v v 0 :=
  ⟨hv, by simp, by simp, Nat.le_refl _, by omega, .inl ⟨rfl, rfl⟩⟩

theorem abt_cut_rel {T K l h c : Nat} (hK : 0 < K) (hT : 2 * (K * T) ≤ h) (h1 : h * T ≤ l * T + c * h) :
    (h / K + 1) * T ≤ l / K * T + (c + 1) * (h / K + 1) := by
  refine Nat.le_of_mul_le_mul_left (c := K) ?_ hK
  have d1 := Nat.div_add_mod h K
  have d2 := Nat.div_add_mod l K
  have m1 := Nat.mod_lt h hK
  have m2 := Nat.mod_lt l hK
  generalize h / K = qh at *
  generalize l / K = ql at *
  generalize h % K = rh at *
  generalize l % K = rl at *
  have e1 : K * ((qh + 1) * T) = (K * qh) * T + K * T := by grind
  have e2 : K * (ql * T + (c + 1) * (qh + 1)) = (K * ql) * T + (c + 1) * (K * qh + K) := by grind
  have f1 : (K * qh) * T ≤ h * T := Nat.mul_le_mul_right _ (by omega)
  have f2 : l * T ≤ (K * ql + K) * T := Nat.mul_le_mul_right _ (by omega)
  have f3 : (c + 1) * h ≤ (c + 1) * (K * qh + K) := Nat.mul_le_mul_left _ (by omega)
  have e3 : (K * ql + K) * T = (K * ql) * T + K * T := by grind
  have e4 : (c + 1) * h = c * h + h := by grind
  omega

theorem abt_cut {p c l h e n : Nat} (hc : c ≤ 2 ^ 249) (h1 : AbtR p c l h e) (lo : 2 ^ (n + 255) ≤ h) (hi : h < 2 ^ (n + 256)) : Abt p (c + 1) (l / 2 ^ n) (h / 2 ^ n + 1) (e + n) := by
  obtain ⟨a0, a1, a2, a3, a4, a6⟩ := h1
  have hK := Nat.two_pow_pos n
  rw [Nat.pow_add] at lo hi
  have l1 := Nat.div_add_mod l (2 ^ n)
  have m1 := Nat.mod_lt l hK
  have l2 := Nat.div_add_mod h (2 ^ n)
  have m2 := Nat.mod_lt h hK
  have hq : 2 ^ 255 ≤ h / 2 ^ n := by rw [Nat.le_div_iff_mul_le hK, Nat.mul_comm]; exact lo
  have hr : h / 2 ^ n < 2 ^ 256 := by rw [Nat.div_lt_iff_lt_mul hK, Nat.mul_comm]; exact hi
  have hl : h ≤ 2 * l := by
    have := Nat.mul_le_mul_right h hc
    omega
  refine ⟨⟨?_, ?_, ?_, ?_, ?_, .inr (by omega)⟩, by omega⟩
  · have h2 : 1 * 2 ^ n ≤ l := by omega
    exact (Nat.le_div_iff_mul_le hK).2 h2
  · rw [Nat.pow_add]
    have : l / 2 ^ n * (2 ^ e * 2 ^ n) ≤ l * 2 ^ e := by
      have e1 : l / 2 ^ n * (2 ^ e * 2 ^ n) = (2 ^ n * (l / 2 ^ n)) * 2 ^ e := by grind
      rw [e1]
      exact Nat.mul_le_mul_right _ (by omega)
    omega
  · rw [Nat.pow_add]
    have : h * 2 ^ e ≤ (h / 2 ^ n + 1) * (2 ^ e * 2 ^ n) := by
      have e1 : (h / 2 ^ n + 1) * (2 ^ e * 2 ^ n) = (2 ^ n * (h / 2 ^ n) + 2 ^ n) * 2 ^ e := by grind
      rw [e1]
      exact Nat.mul_le_mul_right _ (by omega)
    omega
  · have := Nat.div_le_div_right (c := 2 ^ n) a3
    omega
  · exact abt_cut_rel hK (by omega) a4

/-- An answer of against: sure below, sure above, or near. -/
def Near (a l h e : Nat) : Prop := l ≤ a / 2 ^ e ∧ a / 2 ^ e ≤ h

theorem bern (v m : Nat) : v ^ m * (v + m) ≤ (v + 1) ^ m * v := by
  induction m with
  | zero => simp
  | succ m ih =>
    have h1 := Nat.mul_le_mul_right (v + 1) ih
    have e1 : (v + 1) ^ m * v * (v + 1) = (v + 1) ^ (m + 1) * v := by rw [Nat.pow_succ]; grind
    have e2 : v ^ (m + 1) * (v + (m + 1)) + v ^ m * m = v ^ m * (v + m) * (v + 1) := by rw [Nat.pow_succ]; grind
    omega

theorem near_lt {a m v c l h e : Nat} (hA : AbtR (v ^ m) c l h e) (hN : Near a l h e) (hv : v < 2 ^ 64) (hm1 : 1 ≤ m) (hc : c ≤ 2 * m) (hm : m ≤ 2 ^ 60) : a < (v + 1) ^ m := by
  obtain ⟨a0, a1, a2, a3, a4, a6⟩ := hA
  obtain ⟨n1, n2⟩ := hN
  rcases a6 with ⟨rfl, rfl⟩ | a6
  · rw [Nat.pow_zero, Nat.div_one] at n1 n2
    rw [Nat.pow_zero, Nat.mul_one] at a1 a2
    have : a = v ^ m := by omega
    rw [this]
    exact Nat.pow_lt_pow_left (Nat.lt_succ_self v) (by omega)
  · have hK := Nat.two_pow_pos e
    have hlt : a < (h + 1) * 2 ^ e := by
      have := Nat.lt_mul_div_succ a hK
      rw [Nat.mul_comm] at this
      exact Nat.lt_of_lt_of_le this (Nat.mul_le_mul_right _ (by omega))
    have hvp : 0 < v := by
      rcases Nat.eq_zero_or_pos v with z | z
      · subst z
        rw [Nat.zero_pow (by omega)] at a1
        have := Nat.mul_pos a0 hK
        omega
      · exact z
    have hl : h ≤ 2 * l := by
      have := Nat.mul_le_mul_right h (show c ≤ 2 ^ 249 by omega)
      omega
    have key : (h + 1) * v ≤ l * (v + m) := by
      have t1 : 2 ^ 250 = 32768 * 2 ^ 235 := by decide
      have t2 : 2 ^ 255 = 1048576 * 2 ^ 235 := by decide
      have t3 : 2 ^ 249 = 16384 * 2 ^ 235 := by decide
      have t4 : 2 ^ 65 * 32768 ≤ 2 ^ 235 := by decide
      have t5 : 0 < 2 ^ 250 := by decide
      have t6 : 2 ^ 64 ≤ 2 ^ 65 := by decide
      have t7 : 2 ^ 65 = 2 * 2 ^ 64 := by decide
      rw [t2] at a6
      rw [t1] at a4
      clear t2 t3 t1 t5
      generalize hT : 2 ^ 235 = T at *
      have tp : 0 < T := by omega
      generalize 2 ^ 65 = V at *
      generalize 2 ^ 64 = U at *
      refine Nat.le_of_mul_le_mul_right (c := 32768 * T) ?_ (by omega)
      have k1 := Nat.mul_le_mul_right v a4
      have k2 : c * h * v ≤ m * h * V := by
        have k3 : c * h ≤ 2 * m * h := Nat.mul_le_mul_right _ hc
        have k4 := Nat.mul_le_mul k3 (Nat.le_of_lt hv)
        have e1 : 2 * m * h * U = m * h * V := by rw [t7]; grind
        omega
      have k6 : 1048576 * T ≤ m * h := Nat.le_trans a6 (Nat.le_mul_of_pos_left _ hm1)
      have k5 : v * (32768 * T) ≤ m * h * V := by
        have q1 : (32768 * T) * v ≤ (m * h) * V := Nat.mul_le_mul (by omega) (by omega)
        rw [Nat.mul_comm] at q1
        exact q1
      have k7 : m * h * (16384 * T) ≤ l * m * (32768 * T) := by
        have q0 := Nat.mul_le_mul_left m hl
        have e1 : m * (2 * l) = 2 * (l * m) := by grind
        have q1 : m * h * (16384 * T) ≤ 2 * (l * m) * (16384 * T) := Nat.mul_le_mul_right _ (by omega)
        have e2 : 2 * (l * m) * (16384 * T) = l * m * (32768 * T) := by grind
        omega
      have k8 : m * h * V + m * h * V ≤ m * h * (16384 * T) := by
        rw [← Nat.mul_add]
        exact Nat.mul_le_mul_left _ (by omega)
      have e1 : (h + 1) * v * (32768 * T) = h * (32768 * T) * v + v * (32768 * T) := by grind
      have e2 : (l * (32768 * T) + c * h) * v = l * (32768 * T) * v + c * h * v := by grind
      have e3 : l * (v + m) * (32768 * T) = l * (32768 * T) * v + l * m * (32768 * T) := by grind
      omega
    refine Nat.lt_of_mul_lt_mul_right (a := v) ?_
    have b := bern v m
    have c1 : a * v < (h + 1) * 2 ^ e * v := Nat.mul_lt_mul_of_pos_right hlt hvp
    have c2 := Nat.mul_le_mul_right (2 ^ e) key
    have c3 := Nat.mul_le_mul_right (v + m) a1
    have e1 : (h + 1) * 2 ^ e * v = (h + 1) * v * 2 ^ e := by grind
    have e2 : l * 2 ^ e * (v + m) = l * (v + m) * 2 ^ e := by grind
    omega

/-- For Log: near means at most a factor of two away. -/
theorem near_two {a p c l h e : Nat} (hA : AbtR p c l h e) (hN : Near a l h e) (hc : c ≤ 2 ^ 200) : a < 2 * p ∧ p ≤ 2 * a := by
  obtain ⟨a0, a1, a2, a3, a4, a6⟩ := hA
  obtain ⟨n1, n2⟩ := hN
  have hK := Nat.two_pow_pos e
  rcases a6 with ⟨rfl, rfl⟩ | a6
  · rw [Nat.pow_zero, Nat.div_one] at n1 n2
    rw [Nat.pow_zero, Nat.mul_one] at a1 a2
    omega
  · have hl : 2 * h ≤ 3 * l := by
      have := Nat.mul_le_mul_right h hc
      omega
    have hlt : a < (h + 1) * 2 ^ e := by
      have := Nat.lt_mul_div_succ a hK
      rw [Nat.mul_comm] at this
      exact Nat.lt_of_lt_of_le this (Nat.mul_le_mul_right _ (by omega))
    have hge : l * 2 ^ e ≤ a := by
      have := Nat.mul_div_le a (2 ^ e)
      rw [Nat.mul_comm] at this
      exact Nat.le_trans (Nat.mul_le_mul_right _ n1) this
    have k1 : (h + 1) * 2 ^ e ≤ 2 * l * 2 ^ e := Nat.mul_le_mul_right _ (by omega)
    have k2 : h * 2 ^ e ≤ 2 * l * 2 ^ e := Nat.mul_le_mul_right _ (by omega)
    rw [Nat.mul_assoc] at k1 k2
    omega

theorem abt_below {a p c l h e : Nat} (hA : AbtR p c l h e) (hlt : h < a / 2 ^ e) : p < a := by
  obtain ⟨a0, a1, a2, a3, a4, a6⟩ := hA
  have h1 : (h + 1) * 2 ^ e ≤ a / 2 ^ e * 2 ^ e := Nat.mul_le_mul_right _ hlt
  have h2 := Nat.div_mul_le_self a (2 ^ e)
  have h3 := Nat.two_pow_pos e
  rw [Nat.add_mul] at h1
  omega

theorem abt_above {a p c l h e : Nat} (hA : AbtR p c l h e) (hlt : a / 2 ^ e < l) : a < p := by
  obtain ⟨a0, a1, a2, a3, a4, a6⟩ := hA
  have h1 := (Nat.div_lt_iff_lt_mul (Nat.two_pow_pos e)).1 hlt
  omega

/-- The exponent of a cut is no longer than the number. -/
theorem abt_exp {p c l h e N : Nat} (hA : AbtR p c l h e) (hp : p < 2 ^ N) : e < N := by
  obtain ⟨a0, a1, _⟩ := hA
  have h1 : 2 ^ e ≤ l * 2 ^ e := Nat.le_mul_of_pos_left _ a0
  exact (Nat.pow_lt_pow_iff_right (a := 2) (by omega)).1 (by omega)

end Lm
end Go.Proofs.YteecnckfkcmefaaGreatDoor

/- Roots of any index: plain facts. -/
namespace Go.Proofs.YteecnckfkcmefaaGreatDoor
namespace Lm

/-- r is the k-th root of a, downwards. -/
def IsRootK (a k r : Nat) : Prop := r ^ k ≤ a ∧ a < (r + 1) ^ k

theorem rootK_is (a k : Nat) (hk : 1 ≤ k) : ∃ r, IsRootK a k r := by
  induction a with
  | zero => exact ⟨0, by rw [Nat.zero_pow hk]; exact Nat.le_refl _, by simp⟩
  | succ a ih =>
    obtain ⟨r, h1, h2⟩ := ih
    by_cases h : (r + 1) ^ k ≤ a + 1
    · refine ⟨r + 1, h, ?_⟩
      have : (r + 1) ^ k < (r + 1 + 1) ^ k := Nat.pow_lt_pow_left (by omega) (by omega)
      omega
    · exact ⟨r, by omega, by omega⟩

theorem rootK_le {a k r x : Nat} (h : IsRootK a k r) (hx : x ^ k ≤ a) : x ≤ r := by
  refine Nat.le_of_not_lt fun hlt => ?_
  have := Nat.pow_le_pow_left (Nat.succ_le_of_lt hlt) k
  have := h.2
  simp only [Nat.succ_eq_add_one] at *
  omega

theorem rootK_lt {a k r x : Nat} (_hk : 1 ≤ k) (h : IsRootK a k r) (hx : a < x ^ k) : r < x := by
  refine Nat.lt_of_not_le fun hle => ?_
  have := Nat.pow_le_pow_left hle k
  have := h.1
  omega

theorem rootK_uniq {a k r s : Nat} (_hk : 1 ≤ k) (h : IsRootK a k r) (g : IsRootK a k s) : r = s :=
  Nat.le_antisymm (rootK_le g h.1) (rootK_le h g.1)

theorem rootK_small {a k r : Nat} (hk : 1 ≤ k) (h : IsRootK a k r) : r ≤ a := by
  refine Nat.le_trans ?_ h.1
  exact Nat.le_self_pow (by omega) r

theorem rootK_mono {a b k r s : Nat} (h : IsRootK a k r) (g : IsRootK b k s) (hab : a ≤ b) : r ≤ s := rootK_le g (Nat.le_trans h.1 hab)

theorem rootK_two {a r : Nat} : IsRootK a 2 r ↔ (r * r ≤ a ∧ a < (r + 1) * (r + 1)) := by
  unfold IsRootK
  rw [Nat.pow_two, Nat.pow_two]

/-- The root of the higher part is the root's higher part. -/
theorem rootK_high {a k r n : Nat} (_hk : 1 ≤ k) (h : IsRootK a k r) : IsRootK (a / 2 ^ (n * k)) k (r / 2 ^ n) := by
  have hK := Nat.two_pow_pos n
  have hKk := Nat.two_pow_pos (n * k)
  constructor
  · rw [Nat.le_div_iff_mul_le hKk, Nat.pow_mul, ← Nat.mul_pow]
    refine Nat.le_trans (Nat.pow_le_pow_left ?_ k) h.1
    exact Nat.div_mul_le_self _ _
  · rw [Nat.div_lt_iff_lt_mul hKk, Nat.pow_mul, ← Nat.mul_pow]
    refine Nat.lt_of_lt_of_le h.2 (Nat.pow_le_pow_left ?_ k)
    have := Nat.lt_mul_div_succ r hK
    rw [Nat.mul_comm] at this
    exact this

theorem bern2 (h x m : Nat) : h ^ (m + 1) + (m + 1) * h ^ m * x ≤ (h + x) ^ (m + 1) := by
  induction m with
  | zero => simp
  | succ m ih =>
    have h1 := Nat.mul_le_mul_right (h + x) ih
    have e1 : (h + x) ^ (m + 1) * (h + x) = (h + x) ^ (m + 1 + 1) := by rw [Nat.pow_succ (h + x) (m + 1)]
    have e2 : (h ^ (m + 1) + (m + 1) * h ^ m * x) * (h + x) = h ^ (m + 1 + 1) + (m + 1 + 1) * h ^ (m + 1) * x + (m + 1) * h ^ m * x * x := by
      rw [Nat.pow_succ h (m + 1), Nat.pow_succ h m]; grind
    omega

/-- Newton's step from the higher part's root is not below the root. -/
theorem guess_ge {a k r n : Nat} (hk : 1 ≤ k) (h : IsRootK a k r) (hh : 0 < r / 2 ^ n) :
    r ≤ 2 ^ n * (r / 2 ^ n) + (a / 2 ^ (n * (k - 1)) % 2 ^ n + 2 ^ n * (a / 2 ^ (n * k) - (r / 2 ^ n) ^ k)) / ((r / 2 ^ n) ^ (k - 1) * k) := by
  obtain ⟨m, rfl⟩ : ∃ m, k = m + 1 := ⟨k - 1, by omega⟩
  rw [Nat.add_sub_cancel]
  obtain ⟨g1, _⟩ := rootK_high (n := n) hk h
  have hr := Nat.div_add_mod r (2 ^ n)
  have hK := Nat.two_pow_pos n
  have hL := Nat.two_pow_pos (n * m)
  obtain ⟨q, hq⟩ : ∃ q, r / 2 ^ n = q := ⟨_, rfl⟩
  obtain ⟨x, hx⟩ : ∃ x, r % 2 ^ n = x := ⟨_, rfl⟩
  rw [hq, hx] at hr
  rw [hq] at hh g1 ⊢
  have hpos : 0 < q ^ m * (m + 1) := Nat.mul_pos (Nat.pow_pos hh) (by omega)
  have hstep : x ≤ (a / 2 ^ (n * m) % 2 ^ n + 2 ^ n * (a / 2 ^ (n * (m + 1)) - q ^ (m + 1))) / (q ^ m * (m + 1)) := by
    rw [Nat.le_div_iff_mul_le hpos]
    have b := bern2 (2 ^ n * q) x m
    rw [hr] at b
    have h1 := Nat.le_trans b h.1
    have e0 : 2 ^ (n * (m + 1)) = 2 ^ (n * m) * 2 ^ n := by rw [Nat.mul_add, Nat.pow_add, Nat.mul_one]
    have e1 : (2 ^ n * q) ^ (m + 1) = 2 ^ (n * m) * (2 ^ n * q ^ (m + 1)) := by
      rw [Nat.mul_pow, ← Nat.pow_mul, e0, Nat.mul_assoc]
    have e2 : (m + 1) * (2 ^ n * q) ^ m * x = 2 ^ (n * m) * (x * (q ^ m * (m + 1))) := by
      rw [Nat.mul_pow, ← Nat.pow_mul]; grind
    rw [e1, e2, ← Nat.mul_add] at h1
    have h2 : 2 ^ n * q ^ (m + 1) + x * (q ^ m * (m + 1)) ≤ a / 2 ^ (n * m) := by
      rw [Nat.le_div_iff_mul_le hL, Nat.mul_comm]; exact h1
    have h3 := Nat.div_add_mod (a / 2 ^ (n * m)) (2 ^ n)
    rw [Nat.div_div_eq_div_mul, ← e0] at h3
    obtain ⟨A, hA⟩ : ∃ A, a / 2 ^ (n * (m + 1)) = A := ⟨_, rfl⟩
    rw [hA] at h3 g1 ⊢
    rw [Nat.mul_sub]
    have h4 := Nat.mul_le_mul_left (2 ^ n) g1
    omega
  omega

theorem bern3 (h m : Nat) (hm : m ≤ h) : (h + 1) ^ m * (h + 1 - m) ≤ h ^ m * (h + 1) := by
  induction m with
  | zero => simp
  | succ m ih =>
    have ih' := ih (by omega)
    obtain ⟨d, hd⟩ : ∃ d, h + 1 - m = d + 1 := ⟨h - m, by omega⟩
    rw [hd] at ih'
    have hd2 : h + 1 - (m + 1) = d := by omega
    rw [hd2, Nat.pow_succ, Nat.pow_succ]
    have h1 : (h + 1) * d ≤ h * (d + 1) := by
      have e1 : (h + 1) * d = h * d + d := by grind
      have e2 : h * (d + 1) = h * d + h := by grind
      omega
    have h2 := Nat.mul_le_mul_left ((h + 1) ^ m) h1
    have h3 := Nat.mul_le_mul_left h ih'
    have e1 : (h + 1) ^ m * (h + 1) * d = (h + 1) ^ m * ((h + 1) * d) := by grind
    have e2 : (h + 1) ^ m * (h * (d + 1)) = h * ((h + 1) ^ m * (d + 1)) := by grind
    have e3 : h * (h ^ m * (h + 1)) = h ^ m * h * (h + 1) := by grind
    omega

theorem bern4 (q m : Nat) : (q + 1) ^ (m + 1) ≤ q ^ (m + 1) + (m + 1) * (q + 1) ^ m := by
  induction m with
  | zero => simp
  | succ m ih =>
    have h1 := Nat.mul_le_mul_right (q + 1) ih
    have e1 : (q + 1) ^ (m + 1) * (q + 1) = (q + 1) ^ (m + 1 + 1) := by rw [Nat.pow_succ (q + 1) (m + 1)]
    have e2 : (q ^ (m + 1) + (m + 1) * (q + 1) ^ m) * (q + 1) = q ^ (m + 1 + 1) + q ^ (m + 1) + (m + 1) * (q + 1) ^ (m + 1) := by
      rw [Nat.pow_succ q (m + 1), Nat.pow_succ (q + 1) m]; grind
    have h2 : q ^ (m + 1) ≤ (q + 1) ^ (m + 1) := Nat.pow_le_pow_left (by omega) _
    have e3 : (m + 1 + 1) * (q + 1) ^ (m + 1) = (m + 1) * (q + 1) ^ (m + 1) + (q + 1) ^ (m + 1) := by grind
    omega

/-- The step has at most a bit more than n. -/
theorem step_le {a k r n : Nat} (hk : 1 ≤ k) (h : IsRootK a k r) (hh : 2 * k ≤ r / 2 ^ n) :
    (a / 2 ^ (n * (k - 1)) % 2 ^ n + 2 ^ n * (a / 2 ^ (n * k) - (r / 2 ^ n) ^ k)) / ((r / 2 ^ n) ^ (k - 1) * k) ≤ 2 * 2 ^ n := by
  obtain ⟨m, rfl⟩ : ∃ m, k = m + 1 := ⟨k - 1, by omega⟩
  rw [Nat.add_sub_cancel]
  obtain ⟨g1, g2⟩ := rootK_high (n := n) hk h
  obtain ⟨q, hq⟩ : ∃ q, r / 2 ^ n = q := ⟨_, rfl⟩
  rw [hq] at hh g1 g2 ⊢
  have hpos : 0 < q ^ m * (m + 1) := Nat.mul_pos (Nat.pow_pos (by omega)) (by omega)
  have hmod := Nat.mod_lt (a / 2 ^ (n * m)) (Nat.two_pow_pos n)
  refine Nat.le_of_lt_succ ?_
  rw [Nat.div_lt_iff_lt_mul hpos]
  have b4 := bern4 q m
  have b3 := bern3 q m (by omega)
  have b5 : (q + 1) ^ m ≤ 2 * q ^ m := by
    obtain ⟨d, hd⟩ : ∃ d, q + 1 - m = d := ⟨_, rfl⟩
    rw [hd] at b3
    have c1 : (q + 1) ^ m * (q + 1) ≤ (q + 1) ^ m * (2 * d) := Nat.mul_le_mul_left _ (by omega)
    have c2 : (q + 1) ^ m * (2 * d) = 2 * ((q + 1) ^ m * d) := by grind
    have c3 : 2 * (q ^ m * (q + 1)) = 2 * q ^ m * (q + 1) := by grind
    exact Nat.le_of_mul_le_mul_right (c := q + 1) (by omega) (by omega)
  have b6 := Nat.mul_le_mul_left (m + 1) b5
  obtain ⟨A, hA⟩ : ∃ A, a / 2 ^ (n * (m + 1)) = A := ⟨_, rfl⟩
  rw [hA] at g1 g2 ⊢
  have hl : A - q ^ (m + 1) + 1 ≤ 2 * (q ^ m * (m + 1)) := by
    have e1 : (m + 1) * (2 * q ^ m) = 2 * (q ^ m * (m + 1)) := by grind
    omega
  have b7 := Nat.mul_le_mul_left (2 ^ n) hl
  rw [Nat.mul_add, Nat.mul_one] at b7
  have e2 : (2 * 2 ^ n).succ * (q ^ m * (m + 1)) = 2 ^ n * (2 * (q ^ m * (m + 1))) + q ^ m * (m + 1) := by rw [Nat.succ_mul]; grind
  omega

theorem rootK_root {a k m r s t : Nat} (hk : 1 ≤ k) (hm : 1 ≤ m) (h1 : IsRootK a k r) (h2 : IsRootK r m s) (h3 : IsRootK a (m * k) t) : s = t := by
  have hmk : 1 ≤ m * k := Nat.mul_pos hm hk
  refine rootK_uniq hmk ⟨?_, ?_⟩ h3
  · rw [Nat.pow_mul]
    exact Nat.le_trans (Nat.pow_le_pow_left h2.1 k) h1.1
  · rw [Nat.pow_mul]
    exact Nat.lt_of_lt_of_le h1.2 (Nat.pow_le_pow_left (Nat.succ_le_of_lt h2.2) k)

theorem rootK_succ {a k r s : Nat} (hk : 1 ≤ k) (h1 : IsRootK a k r) (h2 : IsRootK (a + 1) k s) : r ≤ s ∧ s ≤ r + 1 := by
  refine ⟨rootK_mono h1 h2 (by omega), ?_⟩
  refine Nat.le_of_lt_succ (rootK_lt hk h2 ?_)
  have : (r + 1) ^ k < (r + 1).succ ^ k := Nat.pow_lt_pow_left (Nat.lt_succ_self _) (by omega)
  have := h1.2
  omega

end Lm
end Go.Proofs.YteecnckfkcmefaaGreatDoor

/- Package roots: power. -/
namespace Go.Proofs.YteecnckfkcmefaaGreatDoor
open Go.RowKit
open Lm
attribute [local go_sem ↓] Go.wp_at_zero Go.wp_at_succ

set_option maxRecDepth 20000 in
set_option maxHeartbeats 1000000 in
theorem rpower_any : ∀ (N n : Nat), n ≤ N → N ≤ 9223372036854775807 → ∀ (X : List Nat) (va : Value) (w : World), Arg w va X → Tab w → X.length ≤ 17592186044000 → blen (val X ^ n) ≤ 1125899906816000 →
    Calls Tryz.prog 63 #[va, .int .i64 n] w (NbDone w (val X ^ n)) := by
  intro N
  induction N with
  | zero =>
    intro n hn _ X va w hA hT hx hb
    obtain rfl : n = 0 := by omega
    have HP := mpow_any va X 0 w hA hT (by omega) (by omega)
    clear hA hT
    go_enter Tryz.func63, Tryz.ntmps63
    go_wp2_with fail
    refine HP.mono ?_
    rintro e w1 ⟨hb, v, c, rs, rfl, ha, hres⟩
    rcases hres with ⟨rfl, q1, q2, _⟩ | ⟨_, _, q3⟩
    · have HD := hide (show NbDone w (val X ^ 0) (.returned v) w1 from ⟨⟨v, rfl, rs, ha, q1, q2⟩, hb⟩)
      clear ha q1 q2 hb HP
      go_wp2
      go_returns
      exact HD.out
    · exfalso
      rw [Nat.pow_zero] at q3
      have : blen 1 ≤ 1 := (blen_le_iff 1 1).2 (by omega)
      omega
  | succ N ih =>
    intro n hn hN X va w hA hT hx hbl
    have HP := mpow_any va X n w hA hT (by omega) (by omega)
    have HA := hide hA
    have HT := hide hT
    have HIH : Hid (∀ m, m ≤ N → ∀ (X : List Nat) (va : Value) (w : World), Arg w va X → Tab w → X.length ≤ 17592186044000 → blen (val X ^ m) ≤ 1125899906816000 → Calls Tryz.prog 63 #[va, .int .i64 m] w (NbDone w (val X ^ m))) := hide fun m hm => ih m hm (by omega)
    clear hA hT ih
    by_cases hfit : blen (val X ^ n) ≤ 67108864
    · clear HIH
      go_enter Tryz.func63, Tryz.ntmps63
      go_wp2_with fail
      refine HP.mono ?_
      rintro e w1 ⟨hb, v, c, rs, rfl, ha, hres⟩
      rcases hres with ⟨rfl, q1, q2, _⟩ | ⟨_, _, q3⟩
      · have HD := hide (show NbDone w (val X ^ n) (.returned v) w1 from ⟨⟨v, rfl, rs, ha, q1, q2⟩, hb⟩)
        clear ha q1 q2 hb HP
        go_wp2
        go_returns
        exact HD.out
      · omega
    · obtain ⟨h, hh⟩ : ∃ h, n / 2 = h := ⟨_, rfl⟩
      have eh : (n : Int) / 2 = (h : Int) := by omega
      have hn1 : 1 ≤ n := by
        rcases Nat.eq_zero_or_pos n with h0 | h0
        · subst h0
          exfalso
          rw [Nat.pow_zero] at hfit
          have : blen 1 ≤ 1 := (blen_le_iff 1 1).2 (by omega)
          omega
        · exact h0
      have hx0 : 0 < val X := by
        rcases Nat.eq_zero_or_pos (val X) with h0 | h0
        · exfalso
          rw [h0, Nat.zero_pow hn1, show blen 0 = 0 from (blen_zero_iff 0).2 rfl] at hfit
          omega
        · exact h0
      have hp1 : val X ^ h ≤ val X ^ n := Nat.pow_le_pow_right hx0 (by omega)
      have hp2 : val X ^ h * val X ^ h ≤ val X ^ n := by rw [← Nat.pow_add]; exact Nat.pow_le_pow_right hx0 (by omega)
      have HL := hide (And.intro (Nat.le_trans (blen_mono hp1) hbl) (Nat.le_trans (blen_mono hp2) hbl))
      have HFT := hide hfit
      clear hp1 hp2 hbl hfit
      rcases Nat.mod_two_eq_zero_or_one n with hm | hm
      · have em : (n : Int) % 2 = 0 := by omega
        have HV : Hid (val X ^ h * val X ^ h = val X ^ n) := by rw [← Nat.pow_add, show h + h = n by omega]; exact hide rfl
        have hhN : h ≤ N := by omega
        clear hm hh
        go_enter Tryz.func63, Tryz.ntmps63
        go_wp2_with fail
        refine HP.mono ?_
        rintro e w1 ⟨hb, v, c, rs, rfl, ha, hres⟩
        obtain rfl : c = 3 := by
          rcases hres with ⟨_, _, _, q⟩ | ⟨q, _⟩
          · exact absurd q HFT.out
          · exact q
        obtain ⟨ao, cap, rfl⟩ := ha.sl
        have F1 := HIH.out h (by omega) X va w1 (HA.out.below hb) (HT.out.below hb) hx (HL.out.1)
        have HB := hide hb
        clear ha hb hres HP
        go_wp2_with fail
        refine F1.mono ?_
        rintro e w2 ⟨⟨vh, rfl, Nh⟩, hb⟩
        replace HB := hide (HB.out.trans (hb.mono HB.out.size))
        clear hb F1
        have F1 := nprod Nh Nh (HT.out.below HB.out) HL.out.1 HL.out.1
        clear Nh
        go_wp2_with fail
        refine F1.mono ?_
        rintro e w3 ⟨⟨vm, rfl, Nm⟩, hb⟩
        replace Nm := Nm.base HB.out.size
        replace HB := hide (HB.out.trans (hb.mono HB.out.size))
        clear hb F1
        have HD := hide (show NbDone w (val X ^ n) (.returned vm) w3 from ⟨⟨vm, rfl, by rw [← HV.out]; exact Nm⟩, HB.out⟩)
        clear Nm
        go_wp2
        go_returns
        exact HD.out
      · have em : (n : Int) % 2 = 1 := by omega
        have HV : Hid (val X ^ h * val X ^ h * val X = val X ^ n) := by rw [← Nat.pow_add, ← Nat.pow_succ, show (h + h).succ = n by omega]; exact hide rfl
        have hhN : h ≤ N := by omega
        clear hm hh
        go_enter Tryz.func63, Tryz.ntmps63
        go_wp2_with fail
        refine HP.mono ?_
        rintro e w1 ⟨hb, v, c, rs, rfl, ha, hres⟩
        obtain rfl : c = 3 := by
          rcases hres with ⟨_, _, _, q⟩ | ⟨q, _⟩
          · exact absurd q HFT.out
          · exact q
        obtain ⟨ao, cap, rfl⟩ := ha.sl
        have F1 := HIH.out h (by omega) X va w1 (HA.out.below hb) (HT.out.below hb) hx (HL.out.1)
        have HB := hide hb
        clear ha hb hres HP
        go_wp2_with fail
        refine F1.mono ?_
        rintro e w2 ⟨⟨vh, rfl, Nh⟩, hb⟩
        replace HB := hide (HB.out.trans (hb.mono HB.out.size))
        clear hb F1
        have F1 := nprod Nh Nh (HT.out.below HB.out) HL.out.1 HL.out.1
        clear Nh
        go_wp2_with fail
        refine F1.mono ?_
        rintro e w3 ⟨⟨vm, rfl, Nm⟩, hb⟩
        replace Nm := Nm.base HB.out.size
        replace HB := hide (HB.out.trans (hb.mono HB.out.size))
        clear hb F1
        obtain ⟨r1, a1, e1, _, l1⟩ := Nm.arg HL.out.2
        have F1 := (rproduct_any (r1.length + X.length + 1) r1 X vm va w3 (by omega) (by omega) a1 (HA.out.below HB.out) (HT.out.below HB.out)).mono fun _ _ h => h.nb
        rw [e1, HV.out] at F1
        clear Nm a1 e1
        go_wp2_with fail
        refine F1.mono ?_
        rintro e w4 ⟨⟨vz, rfl, Nz⟩, hb⟩
        have HD := hide (show NbDone w (val X ^ n) (.returned vz) w4 from ⟨⟨vz, rfl, Nz.base HB.out.size⟩, HB.out.trans (hb.mono HB.out.size)⟩)
        clear Nz hb F1
        go_wp2
        go_returns
        exact HD.out

end Go.Proofs.YteecnckfkcmefaaGreatDoor

/- Package roots: numbers that are not known to their last bit: cut, times. -/
namespace Go.Proofs.YteecnckfkcmefaaGreatDoor
open Go.RowKit
open Lm
attribute [local go_sem ↓] Go.wp_at_zero Go.wp_at_succ

/-- About p, as the program holds it. -/
def AbR (w : World) (v : Value) (p c : Nat) : Prop := ∃ vl vh l h e, v = .agg #[vl, vh, .int .i64 ((e : Nat) : Int)] ∧ Nb w 0 vl l ∧ Nb w 0 vh h ∧ AbtR p c l h e
def Ab (w : World) (v : Value) (p c : Nat) : Prop := ∃ vl vh l h e, v = .agg #[vl, vh, .int .i64 ((e : Nat) : Int)] ∧ Nb w 0 vl l ∧ Nb w 0 vh h ∧ Abt p c l h e

theorem Ab.below {w w' : World} {v : Value} {p c : Nat} (h : Ab w v p c) (hb : Below w.heap.size w w') : Ab w' v p c := by
  obtain ⟨vl, vh, l, h, e, h1, h2, h3, h4⟩ := h
  exact ⟨vl, vh, l, h, e, h1, h2.below hb, h3.below hb, h4⟩

namespace Lm

theorem abtR_mono {p c d l h e : Nat} (hA : AbtR p c l h e) (hcd : c ≤ d) : AbtR p d l h e := by
  obtain ⟨a0, a1, a2, a3, a4, a6⟩ := hA
  exact ⟨a0, a1, a2, a3, Nat.le_trans a4 (Nat.add_le_add_left (Nat.mul_le_mul_right _ hcd) _), a6⟩

theorem abt_le {p c d l h e : Nat} (hA : Abt p c l h e) (hcd : c ≤ d) : Abt p d l h e := ⟨abtR_mono hA.1 hcd, hA.2⟩

theorem cmpN_le {x y : Nat} (h : x ≤ y) : cmpN x y ≤ 0 := by
  unfold cmpN
  split
  · omega
  · rw [if_neg (by omega)]; omega

theorem blen_pow5 {x n : Nat} (h : x ≤ 2 ^ n) : blen x ≤ n + 1 := (blen_le_iff x _).2 (Nat.lt_of_le_of_lt h (Nat.pow_lt_pow_right (by omega) (by omega)))

theorem blen_mul4 {a b m n : Nat} (ha : blen a ≤ m) (hb : blen b ≤ n) : blen (a * b) ≤ m + n := by
  refine (blen_le_iff _ _).2 ?_
  have h1 := (blen_le_iff a m).1 ha
  have h2 := (blen_le_iff b n).1 hb
  rw [Nat.pow_add]
  exact Nat.mul_lt_mul_of_lt_of_lt h1 h2

/-- What is not cut. -/
theorem abt_whole {p c l h e : Nat} (hA : AbtR p c l h e) (hb : blen h ≤ 256) : Abt p c l h e := ⟨hA, Nat.le_of_lt ((blen_le_iff h 256).1 hb)⟩

theorem abt_shorter {p c l h e n : Nat} (hc : c ≤ 2 ^ 249) (hA : AbtR p c l h e) (hn : blen h = n + 256) : Abt p (c + 1) (l / 2 ^ n) (h / 2 ^ n + 1) (e + n) := by
  refine abt_cut hc hA ?_ ?_
  · have h0 : h ≠ 0 := by
      rintro rfl
      rw [show blen 0 = 0 from (blen_zero_iff 0).2 rfl] at hn
      omega
    have := blen_pow_le h h0
    rwa [hn, show n + 256 - 1 = n + 255 by omega] at this
  · rw [← hn]; exact (blen_le_iff h _).1 (Nat.le_refl _)

end Lm

theorem cell_up4 {w w' : World} {g o : Nat} {v : Value} (hb : Below w.heap.size w w') (h : w.cell? ⟨g, o, none⟩ = some v) : w'.cell? ⟨g, o, none⟩ = some v := by
  rw [hb.cell (p := ⟨g, o, none⟩) ?_]
  · exact h
  · show g < w.heap.size
    rcases Nat.lt_or_ge g w.heap.size with h' | h'
    · exact h'
    · simp [World.cell?, Array.getElem?_eq_none h'] at h

theorem box_other4 {w : World} {h g o : Nat} {x : Obj} {v : Value} (e : w.heap[h]? = some x) (hne : h ≠ g) : (w.setCell ⟨g, o, none⟩ v).heap[h]? = some x := by
  rw [Below.heap_setCell _ _ _ _ hne]; exact e

theorem Nb.slice {w : World} {base : Nat} {v : Value} {x : Nat} (h : Nb w base v x) : ∃ ao n cap, v = .slice ao n cap := by
  obtain ⟨rs, ha, _⟩ := h
  obtain ⟨ao, cap, e⟩ := ha.sl
  exact ⟨ao, _, cap, e⟩

theorem set_other4 {w : World} {g k g' k' : Nat} {u : Value} (h : g ≠ g') : (w.setCell ⟨g, k, none⟩ u).cell? ⟨g', k', none⟩ = w.cell? ⟨g', k', none⟩ := by
  simp only [World.cell?]
  rw [Below.heap_setCell _ _ _ _ (by exact Ne.symm h)]

theorem Nb.drew4 {w : World} {base : Nat} {v : Value} {x : Nat} (h : Nb w base v x) : Nb w.drew base v x := h.below (Below.refl _ _).drew

theorem ndown {w : World} {b1 : Nat} {v1 : Value} {x n : Nat} (h1 : Nb w b1 v1 x) (l1 : blen x ≤ 1125899906816000) (hn : n ≤ 4611686018427387904) : Calls Tryz.prog 48 #[v1, .int .i64 n] w (NbDone w (x / 2 ^ n)) := by
  obtain ⟨r1, a1, rfl, _, n1⟩ := h1.arg l1
  exact (rdown_any v1 r1 n w a1 (by omega) hn).mono fun _ _ h => h.nb

theorem nlength {w : World} {b1 : Nat} {v1 : Value} {x : Nat} (h1 : Nb w b1 v1 x) (l1 : blen x ≤ 1125899906816000) : Calls Tryz.prog 52 #[v1] w fun e w' => e = .returned (.int .i64 ((blen x : Nat) : Int)) ∧ w' = w := by
  obtain ⟨r1, a1, rfl, _, n1⟩ := h1.arg l1
  exact length_val v1 r1 w a1

theorem nmul {w : World} {b1 b2 : Nat} {v1 v2 : Value} {x y : Nat} (h1 : Nb w b1 v1 x) (h2 : Nb w b2 v2 y) (hT : Tab w) (hl : blen x ≤ 1000000) (hl2 : blen y ≤ 1000000) :
    Calls Tryz.prog 90 #[v1, v2] w fun e w' => (∃ v, e = .returned (.tuple #[v, .int .i64 0]) ∧ Nb w' w.heap.size v (x * y)) ∧ Below w.heap.size w w' := by
  obtain ⟨r1, a1, rfl, _, n1⟩ := h1.arg (by omega)
  obtain ⟨r2, a2, rfl, _, n2⟩ := h2.arg (by omega)
  refine (mul_any v1 v2 r1 r2 w a1 a2 hT (by omega)).mono ?_
  rintro e w' ⟨hb, v, c, rs, rfl, ha, hres⟩
  rcases hres with ⟨rfl, q1, q2, _⟩ | ⟨_, _, q3⟩
  · exact ⟨⟨v, rfl, rs, ha, q1, q2⟩, hb⟩
  · exfalso
    have := blen_mul4 hl hl2
    omega

theorem Nb.set {w : World} {base g o : Nat} {v u : Value} {x : Nat} {vs : Array Value} (h : Nb w base v x) (hl : w.heap[g]? = some (.cells vs 87)) : Nb (w.setCell ⟨g, o, none⟩ u) base v x := by
  obtain ⟨rs, ha, h2⟩ := h
  have hne : v.ownBlock ≠ some g := by
    obtain ⟨_, h2⟩ := ha.own
    rcases h2 with ⟨rfl, _⟩ | ⟨g', cap, cur, rfl, _, hh, _⟩
    · simp [Value.ownBlock]
    · intro e
      simp [Value.ownBlock] at e
      subst e
      rw [hl] at hh
      simp at hh
  exact ⟨rs, ⟨ownsRow_setCell_other ha.own hne _, ha.limbs⟩, h2⟩

theorem Nb.set3 {w : World} {base g : Nat} {v u0 u1 u2 a b d : Value} {x : Nat} (h : Nb w base v x) (hl : w.heap[g]? = some (.cells #[a, b, d] 87)) : Nb (((w.setCell ⟨g, 0, none⟩ u0).setCell ⟨g, 1, none⟩ u1).setCell ⟨g, 2, none⟩ u2) base v x :=
  ((h.set hl).set (box_modify hl u0)).set (box_modify (box_modify hl u0) u1)

theorem Ab.set3 {w : World} {g p c : Nat} {v u0 u1 u2 a b d : Value} (h : Ab w v p c) (hl : w.heap[g]? = some (.cells #[a, b, d] 87)) : Ab (((w.setCell ⟨g, 0, none⟩ u0).setCell ⟨g, 1, none⟩ u1).setCell ⟨g, 2, none⟩ u2) v p c := by
  obtain ⟨vl, vh, l, h, e, h1, h2, h3, h4⟩ := h
  exact ⟨vl, vh, l, h, e, h1, h2.set3 hl, h3.set3 hl, h4⟩

theorem below_one (w : World) (o : Obj) : Below w.heap.size w (w.alloc o) := (Below.refl _ _).alloc (Nat.le_refl _) _

theorem below_set3 {B : Nat} {w0 w : World} {g : Nat} {u0 u1 u2 : Value} (h : Below B w0 w) (hg : B ≤ g) : Below B w0 (((w.setCell ⟨g, 0, none⟩ u0).setCell ⟨g, 1, none⟩ u1).setCell ⟨g, 2, none⟩ u2) :=
  ((h.setCell (p := ⟨g, 0, none⟩) hg u0).setCell (p := ⟨g, 1, none⟩) hg u1).setCell (p := ⟨g, 2, none⟩) hg u2

theorem block_up {w w' : World} {g : Nat} {x : Obj} (hb : Below w.heap.size w w') (h : w.heap[g]? = some x) : w'.heap[g]? = some x := by
  rw [hb.block g (lt_of_block h)]; exact h

theorem Ab.parts {w : World} {v : Value} {p c : Nat} (h : Ab w v p c) : ∃ (vl vh : Value) (e : Nat), v = .agg #[vl, vh, .int .i64 (e : Int)] := by
  obtain ⟨vl, vh, l, h, e, h1, _⟩ := h
  exact ⟨vl, vh, e, h1⟩

set_option maxRecDepth 20000 in
set_option maxHeartbeats 1000000 in
theorem cut_any (vl vh : Value) (l h e p c : Nat) (w : World) (Nl : Nb w 0 vl l) (Nh : Nb w 0 vh h) (hA : AbtR p c l h e) (hc : c ≤ 2 ^ 200) (bh : blen h ≤ 67108864) (he : e ≤ 2305843009213693952) :
    Calls Tryz.prog 82 #[.agg #[vl, vh, .int .i64 (e : Int)]] w fun en w' => (∃ v, en = .returned v ∧ Ab w' v p (c + 1)) ∧ Below w.heap.size w w' := by
  have bl : blen l ≤ 67108864 := Nat.le_trans (blen_mono hA.2.2.2.1) bh
  obtain ⟨al, ml, kl, rfl⟩ := Nl.slice
  obtain ⟨ah, mh, kh, rfl⟩ := Nh.slice
  obtain ⟨w0, hw0⟩ : ∃ w0, w0 = (w.alloc (.cells #[(.slice al ml kl), (.slice ah mh kh), .int .i64 (e : Int)] 87)).alloc (.cells #[.slice none 0 0, .slice none 0 0, .int .i64 0] 87) := ⟨_, rfl⟩
  have hba : Below w.heap.size w (w.alloc (.cells #[(.slice al ml kl), (.slice ah mh kh), .int .i64 (e : Int)] 87)) := below_one _ _
  have hb0 : Below w.heap.size w w0 := by rw [hw0]; exact hba.alloc hba.size _
  have hs1 : (w.alloc (.cells #[(.slice al ml kl), (.slice ah mh kh), .int .i64 (e : Int)] 87)).heap.size = w.heap.size + 1 := World.size_alloc _ _
  obtain ⟨c0, c1, c2⟩ := box3 (show w0.heap[w.heap.size]? = some (.cells #[(.slice al ml kl), (.slice ah mh kh), .int .i64 (e : Int)] 87) by
    have hb : Below (w.alloc (.cells #[(.slice al ml kl), (.slice ah mh kh), .int .i64 (e : Int)] 87)).heap.size (w.alloc (.cells #[(.slice al ml kl), (.slice ah mh kh), .int .i64 (e : Int)] 87)) w0 := by rw [hw0]; exact below_one _ _
    rw [hb.block w.heap.size (by omega)]; exact heap_alloc_new ..)
  have hz : w0.heap[w.heap.size + 1]? = some (.cells #[.slice none 0 0, .slice none 0 0, .int .i64 0] 87) := by
    have h := heap_alloc_new (w.alloc (.cells #[(.slice al ml kl), (.slice ah mh kh), .int .i64 (e : Int)] 87)) (.cells #[.slice none 0 0, .slice none 0 0, .int .i64 0] 87)
    rw [hs1, ← hw0] at h
    exact h
  obtain ⟨g, hg⟩ : ∃ g, w.heap.size + 1 = g := ⟨_, rfl⟩
  rw [hg] at hz
  have hgw : w.heap.size < g := by omega
  have HZ := hide hz
  have HGG := hide hg
  have HW0 := hide hw0
  have N0 := Nl.below hb0
  have N1 := Nh.below hb0
  have L1 := nlength N1 (by omega)
  have HB : Hid (Below w.heap.size w w0) := hide hb0
  clear Nl Nh hw0 hb0 hs1 hba hz hg
  by_cases hn : blen h ≤ 256
  · have HR := hide (abt_le (abt_whole hA hn) (Nat.le_succ c))
    obtain ⟨n, hn2⟩ : ∃ n : Nat, (blen h : Int) - 256 = -(n : Int) := ⟨256 - blen h, by omega⟩
    have hnb : n ≤ 256 := by omega
    have i1 : -(n : Int) ≤ 0 := by omega
    have HAB : Hid (Ab w0 (.agg #[(.slice al ml kl), (.slice ah mh kh), .int .i64 (e : Int)]) p (c + 1)) := hide ⟨_, _, l, h, e, rfl, N0, N1, HR.out⟩
    have hf := box3f HZ.out
    obtain ⟨r0, r1, r2⟩ := box3 HZ.out
    clear N0 N1 HR hA
    generalize blen h = lh at *
    go_enter Tryz.func82, Tryz.ntmps82
    go_wp2_with fail
    rw [← HW0.out]
    refine L1.mono ?_
    rintro e' wn ⟨rfl, hw⟩; rw [hw, HGG.out]; clear hw wn L1
    go_wp2
    have R5 := box3_all HZ.out (a' := .slice al ml kl) (b' := .slice ah mh kh) (c' := .int .i64 (e : Int))
    have HD := hide (And.intro (HAB.out.set3 (u0 := .slice al ml kl) (u1 := .slice ah mh kh) (u2 := .int .i64 (e : Int)) HZ.out) (below_set3 HB.out (g := g) (u0 := .slice al ml kl) (u1 := .slice ah mh kh) (u2 := .int .i64 (e : Int)) (by omega)))
    generalize ((w0.setCell ⟨g, 0, none⟩ (.slice al ml kl)).setCell ⟨g, 1, none⟩ (.slice ah mh kh)).setCell ⟨g, 2, none⟩ (.int .i64 (e : Int)) = w5 at *
    obtain ⟨q0, q1, q2⟩ := box3 R5
    refine bodyPost_ret (v := .agg #[.slice al ml kl, .slice ah mh kh, .int .i64 (e : Int)]) (by simp [results, Tryz.results82, go_sem, q0, q1, q2]) rfl ?_
    exact ⟨⟨_, rfl, HD.out.1⟩, HD.out.2⟩
  · obtain ⟨n, hn2⟩ : ∃ n : Nat, blen h = n + 256 := ⟨blen h - 256, by omega⟩
    have HR := hide (abt_shorter (Nat.le_trans hc (by decide)) hA hn2)
    rw [hn2] at L1
    obtain ⟨lh, elh⟩ : ∃ lh : Nat, n + 256 = lh := ⟨_, rfl⟩
    rw [elh] at L1
    have e1 : (lh : Int) - 256 = (n : Int) := by omega
    have i1 : ¬ (n : Int) ≤ 0 := by omega
    have hnb : n ≤ 67108864 := by omega
    obtain ⟨en, hen, een⟩ : ∃ en : Nat, e + n = en ∧ (e : Int) + (n : Int) = (en : Int) := ⟨e + n, rfl, by omega⟩
    rw [hen] at HR
    have wen : IntKind.i64.wrap ((e : Int) + (n : Int)) = (en : Int) := by rw [IntKind.wrap_i64]; omega
    have wen2 : IntKind.i64.wrap (en : Int) = (en : Int) := by rw [IntKind.wrap_i64]; omega
    have F1 := ndown (n := n) N0.drew4 (by omega) (by omega)
    have F2 := hide (fun (w1 : World) (hb1 : Below w0.drew.heap.size w0.drew w1) => ndown (n := n) (N1.drew4.below hb1) (by omega) (by omega))
    have hbd2 : blen (h / 2 ^ n) ≤ 67108864 := Nat.le_trans (blen_mono (Nat.div_le_self _ _)) bh
    have F4 := hide (fun (w2 w3 : World) (v2 v3 : Value) (b2 : Nat) (M2 : Nb w2 b2 v2 (h / 2 ^ n)) (hb3 : Below w2.heap.size w2 w3) (M3 : Nb w3 w2.heap.size v3 1) => nsum (M2.below hb3) M3 (by omega) (by rw [show blen 1 = 1 from rfl]; omega))
    clear hA hn hn2 hen N0 N1 elh
    have hso : ∀ (W : World) (k : Nat) (u : Value) (k' : Nat), (W.setCell ⟨g, k, none⟩ u).cell? ⟨w.heap.size, k', none⟩ = W.cell? ⟨w.heap.size, k', none⟩ := fun W k u k' => set_other4 (by omega)
    have HZD : Hid (w0.drew.heap[g]? = some (.cells #[.slice none 0 0, .slice none 0 0, .int .i64 0] 87)) := HZ
    have d0 : w0.drew.cell? ⟨w.heap.size, 0, none⟩ = some (.slice al ml kl) := c0
    have d1 : w0.drew.cell? ⟨w.heap.size, 1, none⟩ = some (.slice ah mh kh) := c1
    have d2 : w0.drew.cell? ⟨w.heap.size, 2, none⟩ = some (.int .i64 (e : Int)) := c2
    go_enter Tryz.func82, Tryz.ntmps82
    go_wp2_with fail
    rw [← HW0.out]
    refine L1.mono ?_
    rintro e' wn ⟨rfl, hw⟩; rw [hw, HGG.out]; clear hw wn L1
    go_wp2
    go_region_held3 (fun w' => w'.cell? ⟨w.heap.size, 0, none⟩ = some (.slice al ml kl) ∧ w'.cell? ⟨w.heap.size, 1, none⟩ = some (.slice ah mh kh) ∧ w'.cell? ⟨w.heap.size, 2, none⟩ = some (.int .i64 (e : Int))) (go_keep) (first
      | (go_at_call_of 48 al; refine F1.mono ?_; rintro e' w1 ⟨⟨v1, rfl, M1⟩, hb1⟩; obtain ⟨a1, m1, k1, rfl⟩ := M1.slice; have x0 := cell_up4 hb1 d0; have x1 := cell_up4 hb1 d1; have x2 := cell_up4 hb1 d2)
      | (go_at_call 48; refine (F2.out w1 hb1).mono ?_; rintro e' w2 ⟨⟨v2, rfl, M2⟩, hb2⟩; have y0 := cell_up4 hb2 x0; have y1 := cell_up4 hb2 x1; have y2 := cell_up4 hb2 x2)
      | (go_at_call 43; refine (nfrom 1 w2 (by omega)).mono ?_; rintro e' w3 ⟨⟨v3, rfl, M3⟩, hb3⟩; have z0 := cell_up4 hb3 y0; have z1 := cell_up4 hb3 y1; have z2 := cell_up4 hb3 y2)
      | (go_at_call 42; refine (F4.out w2 w3 v2 v3 _ M2 hb3 M3).mono ?_; rintro e' w4 ⟨⟨v4, rfl, M4⟩, hb4⟩; obtain ⟨a4, m4, k4, rfl⟩ := M4.slice; have u0 := cell_up4 hb4 z0; have u1 := cell_up4 hb4 z1; have u2 := cell_up4 hb4 z2; have hz4 := block_up hb4 (block_up hb3 (block_up hb2 (block_up hb1 HZD.out))); have hf4 := box3f hz4; obtain ⟨t0, t1, t2⟩ := box3 hz4))
    have hb1' := below_undrew hb1
    replace HB := hid_below (hid_below (hid_below (hid_below HB hb1') hb2) hb3) hb4
    have HZ4 := hide hz4
    have HAB : Hid (Ab w4 (.agg #[.slice a1 m1 k1, .slice a4 m4 k4, .int .i64 (en : Int)]) p (c + 1)) := hide ⟨_, _, _, _, en, rfl, (((M1.below hb2).below hb3).below hb4).base (Nat.zero_le _), M4.base (Nat.zero_le _), HR.out⟩
    have R5 := box3_all HZ4.out (a' := .slice a1 m1 k1) (b' := .slice a4 m4 k4) (c' := .int .i64 (en : Int))
    have HD := hide (And.intro (HAB.out.set3 (u0 := .slice a1 m1 k1) (u1 := .slice a4 m4 k4) (u2 := .int .i64 (en : Int)) HZ4.out) (below_set3 HB.out (g := g) (u0 := .slice a1 m1 k1) (u1 := .slice a4 m4 k4) (u2 := .int .i64 (en : Int)) (by omega)))
    clear hso hf4 t0 t1 t2 u0 u1 u2 x0 x1 x2 y0 y1 y2 z0 z1 z2 hz4 M1 M2 M3 M4 hb1 hb1' hb2 hb3 hb4
    generalize ((w4.setCell ⟨g, 0, none⟩ (.slice a1 m1 k1)).setCell ⟨g, 1, none⟩ (.slice a4 m4 k4)).setCell ⟨g, 2, none⟩ (.int .i64 (en : Int)) = w5 at *
    obtain ⟨q0, q1, q2⟩ := box3 R5
    go_wp2
    refine bodyPost_ret (v := .agg #[.slice a1 m1 k1, .slice a4 m4 k4, .int .i64 (en : Int)]) (by simp [results, Tryz.results82, go_sem, q0, q1, q2]) rfl ?_
    exact ⟨⟨_, rfl, HD.out.1⟩, HD.out.2⟩

set_option maxRecDepth 20000 in
set_option maxHeartbeats 1000000 in
theorem times_any (vx vy : Value) (p q c d : Nat) (w : World) (hx : Ab w vx p c) (hy : Ab w vy q d) (hT : Tab w) (hcd : c + d ≤ 2 ^ 200) (hp : blen (p * q) ≤ 2305843009213693952) :
    Calls Tryz.prog 83 #[vx, vy] w fun en w' => (∃ v, en = .returned v ∧ Ab w' v (p * q) (c + d + 1)) ∧ Below w.heap.size w w' := by
  obtain ⟨xl, xh, lx, hx, ex, rfl, N1, N2, X⟩ := hx
  obtain ⟨yl, yh, ly, hy, ey, rfl, N3, N4, Y⟩ := hy
  have XY := abt_mul X.1 Y.1
  have hex : ex + ey ≤ 2305843009213693952 := Nat.le_trans (Nat.le_of_lt (abt_exp XY ((blen_le_iff _ _).1 (Nat.le_refl _)))) hp
  have bx : blen hx ≤ 257 := blen_pow5 X.2
  have by_ : blen hy ≤ 257 := blen_pow5 Y.2
  have blx : blen lx ≤ 257 := Nat.le_trans (blen_mono X.1.2.2.2.1) bx
  have bly : blen ly ≤ 257 := Nat.le_trans (blen_mono Y.1.2.2.2.1) by_
  have bxy : blen (hx * hy) ≤ 257 + 257 := blen_mul4 bx by_
  obtain ⟨a1, m1, k1, rfl⟩ := N1.slice
  obtain ⟨a2, m2, k2, rfl⟩ := N2.slice
  obtain ⟨a3, m3, k3, rfl⟩ := N3.slice
  obtain ⟨a4, m4, k4, rfl⟩ := N4.slice
  obtain ⟨wa, hwa⟩ : ∃ wa, wa = w.alloc (.cells #[.slice a1 m1 k1, .slice a2 m2 k2, .int .i64 (ex : Int)] 87) := ⟨_, rfl⟩
  obtain ⟨wb, hwb⟩ : ∃ wb, wb = wa.alloc (.cells #[.slice a3 m3 k3, .slice a4 m4 k4, .int .i64 (ey : Int)] 87) := ⟨_, rfl⟩
  obtain ⟨w0, hw0⟩ : ∃ w0, w0 = wb.alloc (.cells #[.slice none 0 0, .slice none 0 0, .int .i64 0] 87) := ⟨_, rfl⟩
  have ha : Below w.heap.size w wa := by rw [hwa]; exact below_one _ _
  have hb : Below wa.heap.size wa wb := by rw [hwb]; exact below_one _ _
  have hc : Below wb.heap.size wb w0 := by rw [hw0]; exact below_one _ _
  have sa : wa.heap.size = w.heap.size + 1 := by rw [hwa]; exact World.size_alloc _ _
  have sb : wb.heap.size = w.heap.size + 1 + 1 := by rw [hwb, World.size_alloc, sa]
  have hb0 : Below w.heap.size w w0 := (ha.trans (hb.mono ha.size)).trans (hc.mono (ha.trans (hb.mono ha.size)).size)
  obtain ⟨c0, c1, c2⟩ := box3 (show w0.heap[w.heap.size]? = some (.cells #[.slice a1 m1 k1, .slice a2 m2 k2, .int .i64 (ex : Int)] 87) from block_up hc (block_up hb (by rw [hwa]; exact heap_alloc_new ..)))
  obtain ⟨d0, d1, d2⟩ := box3 (show w0.heap[w.heap.size + 1]? = some (.cells #[.slice a3 m3 k3, .slice a4 m4 k4, .int .i64 (ey : Int)] 87) from block_up hc (by rw [hwb, ← sa]; exact heap_alloc_new ..))
  have hz : w0.heap[w.heap.size + 1 + 1]? = some (.cells #[.slice none 0 0, .slice none 0 0, .int .i64 0] 87) := by rw [hw0, ← sb]; exact heap_alloc_new ..
  have HW0 : Hid (((w.alloc (.cells #[.slice a1 m1 k1, .slice a2 m2 k2, .int .i64 (ex : Int)] 87)).alloc (.cells #[.slice a3 m3 k3, .slice a4 m4 k4, .int .i64 (ey : Int)] 87)).alloc (.cells #[.slice none 0 0, .slice none 0 0, .int .i64 0] 87) = w0) := hide (by rw [hw0, hwb, hwa])
  obtain ⟨g, hg⟩ : ∃ g, w.heap.size + 1 + 1 = g := ⟨_, rfl⟩
  rw [hg] at hz
  have hgw : w.heap.size < g := by omega
  have HGG := hide hg
  have HB : Hid (Below w.heap.size w w0) := hide hb0
  have HT := hide hT
  replace N1 := N1.below hb0; replace N2 := N2.below hb0; replace N3 := N3.below hb0; replace N4 := N4.below hb0
  have F1 := nmul N1 N3 (hT.below hb0) (by omega) (by omega)
  obtain ⟨es, hes, ees⟩ : ∃ es : Nat, ex + ey = es ∧ (ex : Int) + (ey : Int) = (es : Int) := ⟨ex + ey, rfl, by omega⟩
  rw [hes] at XY hex
  have HXY := hide XY
  clear N1 N3 hw0 hwa hwb ha hb hc sa sb hb0 XY X Y hes hT hp hg
  go_enter Tryz.func83, Tryz.ntmps83
  go_wp2_with fail
  rw [HW0.out]
  refine F1.mono ?_
  rintro e' w1 ⟨⟨v1, rfl, M1⟩, hb⟩
  obtain ⟨a5, m5, k5, rfl⟩ := M1.slice
  replace M1 := M1.base (Nat.zero_le _)
  replace N2 := N2.below hb; replace N4 := N4.below hb
  replace c0 := cell_up4 hb c0; replace c1 := cell_up4 hb c1; replace c2 := cell_up4 hb c2; replace d0 := cell_up4 hb d0; replace d1 := cell_up4 hb d1; replace d2 := cell_up4 hb d2
  replace HB := hid_below HB hb
  replace hz := block_up hb hz
  clear hb F1
  have F2 := nmul N2 N4 (HT.out.below HB.out) (by omega) (by omega)
  clear N2 N4
  go_wp2_with fail
  refine F2.mono ?_
  rintro e' w2 ⟨⟨v2, rfl, M2⟩, hb⟩
  obtain ⟨a6, m6, k6, rfl⟩ := M2.slice
  replace M1 := M1.below hb; replace M2 := M2.base (Nat.zero_le _)
  replace c0 := cell_up4 hb c0; replace c1 := cell_up4 hb c1; replace c2 := cell_up4 hb c2; replace d0 := cell_up4 hb d0; replace d1 := cell_up4 hb d1; replace d2 := cell_up4 hb d2
  replace HB := hid_below HB hb
  replace hz := block_up hb hz
  clear hb F2
  have F3 := cut_any _ _ _ _ es (p * q) (c + d) w2 M1 M2 HXY.out hcd (by omega) hex
  clear M1 M2
  go_wp2_with fail
  refine F3.mono ?_
  rintro e' w4 ⟨⟨v4, rfl, M4⟩, hb⟩
  obtain ⟨vl, vh, l, h, e4, rfl, Q1, Q2, Q3⟩ := M4
  obtain ⟨a7, m7, k7, rfl⟩ := Q1.slice
  obtain ⟨a8, m8, k8, rfl⟩ := Q2.slice
  have HAB : Hid (Ab w4 (.agg #[.slice a7 m7 k7, .slice a8 m8 k8, .int .i64 (e4 : Int)]) (p * q) (c + d + 1)) := hide ⟨_, _, l, h, e4, rfl, Q1, Q2, Q3⟩
  replace HB := hid_below HB hb
  replace hz := block_up hb hz
  have hf := box3f hz
  obtain ⟨r0, r1, r2⟩ := box3 hz
  rw [HGG.out]
  have HZ := hide hz
  clear hb F3 Q1 Q2 Q3 c0 c1 c2 d0 d1 d2 hz
  go_wp2
  have R5 := box3_all HZ.out (a' := .slice a7 m7 k7) (b' := .slice a8 m8 k8) (c' := .int .i64 (e4 : Int))
  have HD := hide (And.intro (HAB.out.set3 (u0 := .slice a7 m7 k7) (u1 := .slice a8 m8 k8) (u2 := .int .i64 (e4 : Int)) HZ.out) (below_set3 HB.out (g := g) (u0 := .slice a7 m7 k7) (u1 := .slice a8 m8 k8) (u2 := .int .i64 (e4 : Int)) (by omega)))
  clear r0 r1 r2 hf
  generalize ((w4.setCell ⟨g, 0, none⟩ (.slice a7 m7 k7)).setCell ⟨g, 1, none⟩ (.slice a8 m8 k8)).setCell ⟨g, 2, none⟩ (.int .i64 (e4 : Int)) = w5 at *
  obtain ⟨q0, q1, q2⟩ := box3 R5
  refine bodyPost_ret (v := .agg #[.slice a7 m7 k7, .slice a8 m8 k8, .int .i64 (e4 : Int)]) (by simp [results, Tryz.results83, go_sem, q0, q1, q2]) rfl ?_
  exact ⟨⟨_, rfl, HD.out.1⟩, HD.out.2⟩

end Go.Proofs.YteecnckfkcmefaaGreatDoor

/- Package roots: numbers that are not known to their last bit, held against a number. -/
namespace Go.Proofs.YteecnckfkcmefaaGreatDoor
open Go.RowKit
open Lm
attribute [local go_sem ↓] Go.wp_at_zero Go.wp_at_succ

namespace Lm

theorem len_below {p c l h e x : Nat} (hA : AbtR p c l h e) (hb : blen h + e < blen x) : p < x := by
  have h1 := (blen_le_iff h _).1 (Nat.le_refl _)
  have hx : x ≠ 0 := by
    rintro rfl
    rw [show blen 0 = 0 from (blen_zero_iff 0).2 rfl] at hb
    omega
  have h2 := blen_pow_le x hx
  have h3 : h * 2 ^ e < 2 ^ (blen h + e) := by rw [Nat.pow_add]; exact Nat.mul_lt_mul_of_pos_right h1 (Nat.two_pow_pos e)
  have h4 : 2 ^ (blen h + e) ≤ 2 ^ (blen x - 1) := Nat.pow_le_pow_right (by omega) (by omega)
  have := hA.2.2.1
  omega

theorem len_above {p c l h e x : Nat} (hA : AbtR p c l h e) (hb : blen x < blen l + e) : x < p := by
  have h1 := (blen_le_iff x _).1 (Nat.le_refl _)
  have h0 := hA.1
  have h2 := blen_pow_le l (by omega)
  have hl : blen l ≠ 0 := fun h => by have := (blen_zero_iff l).1 h; omega
  have h3 : 2 ^ (blen l - 1 + e) ≤ l * 2 ^ e := by rw [Nat.pow_add]; exact Nat.mul_le_mul_right _ h2
  have h4 : 2 ^ blen x ≤ 2 ^ (blen l - 1 + e) := Nat.pow_le_pow_right (by omega) (by omega)
  have := hA.2.1
  omega

end Lm

/-- Where p is, held against x. -/
def Side (s : Int) (p c x : Nat) : Prop := (s = -1 ∧ p < x) ∨ (s = 1 ∧ x < p) ∨ (s = 0 ∧ ∃ l h e, AbtR p c l h e ∧ Near x l h e)

set_option maxRecDepth 20000 in
set_option maxHeartbeats 2000000 in
theorem against_any (v va : Value) (p c : Nat) (X : List Nat) (w : World) (hA : Ab w v p c) (hX : Arg w va X) (hx : X.length ≤ 17592186044000) (hbx : blen (val X) ≤ 1125899906816000) (hp : blen p ≤ 2305843009213693952) :
    Calls Tryz.prog 61 #[v, va] w fun en w' => (∃ s, en = .returned (.int .i64 s) ∧ Side s p c (val X)) ∧ Below w.heap.size w w' := by
  obtain ⟨vl, vh, l, h, e, rfl, Nl, Nh, HR⟩ := hA
  have he : e ≤ 2305843009213693952 := Nat.le_trans (Nat.le_of_lt (abt_exp HR.1 ((blen_le_iff _ _).1 (Nat.le_refl _)))) hp
  have bh : blen h ≤ 257 := blen_pow5 HR.2
  have bl : blen l ≤ 257 := Nat.le_trans (blen_mono HR.1.2.2.2.1) bh
  obtain ⟨al, ml, kl, rfl⟩ := Nl.slice
  obtain ⟨ah, mh, kh, rfl⟩ := Nh.slice
  have HBD : Hid (blen (val X / 2 ^ e) ≤ 1125899906816000) := hide (Nat.le_trans (blen_mono (Nat.div_le_self _ _)) (by omega))
  obtain ⟨w0, hw0⟩ : ∃ w0, w0 = w.alloc (.cells #[.slice al ml kl, .slice ah mh kh, .int .i64 (e : Int)] 87) := ⟨_, rfl⟩
  have hb0 : Below w.heap.size w w0 := by rw [hw0]; exact (Below.refl _ _).alloc (Nat.le_refl _) _
  obtain ⟨c0, c1, c2⟩ := box3 (show w0.heap[w.heap.size]? = _ by rw [hw0]; exact heap_alloc_new ..)
  have HW0 := hide hw0
  have HB : Hid (Below w.heap.size w w0) := hide hb0
  replace Nl := Nl.below hb0; replace Nh := Nh.below hb0; replace hX := hX.below hb0
  have LA := length_val va X w0 hX
  have LH := nlength Nh.drew4 (by omega)
  have LL := nlength Nl.drew4.drew4 (by omega)
  obtain ⟨sh, hsh, esh⟩ : ∃ sh : Nat, blen h + e = sh ∧ (blen h : Int) + (e : Int) = (sh : Int) := ⟨_, rfl, by omega⟩
  obtain ⟨sl, hsl, esl⟩ : ∃ sl : Nat, blen l + e = sl ∧ (blen l : Int) + (e : Int) = (sl : Int) := ⟨_, rfl, by omega⟩
  obtain ⟨lx, hlx⟩ : ∃ lx, blen (val X) = lx := ⟨_, rfl⟩
  obtain ⟨lh, hlh⟩ : ∃ lh, blen h = lh := ⟨_, rfl⟩
  obtain ⟨ll, hll⟩ : ∃ ll, blen l = ll := ⟨_, rfl⟩
  have hshb : sh ≤ 2305843009213694300 := by omega
  have hslb : sl ≤ 2305843009213694300 := by omega
  have wsh : IntKind.i64.wrap (sh : Int) = sh := by rw [IntKind.wrap_i64]; omega
  have wsl : IntKind.i64.wrap (sl : Int) = sl := by rw [IntKind.wrap_i64]; omega
  have HS1 : Hid (sh < lx → p < val X) := hide fun h => len_below HR.1 (by omega)
  have HS2 : Hid (lx < sl → val X < p) := hide fun h => len_above HR.1 (by omega)
  have HRR := hide HR.1
  rw [hlx] at LA hbx
  rw [hlh] at LH esh bh
  rw [hll] at LL esl bl
  have HBH := hide (And.intro (show blen h ≤ 257 by omega) (show blen l ≤ 257 by omega))
  clear hw0 hb0 hsh hsl hlx hlh hll HR hp
  by_cases h1 : sh < lx
  · have i1 : (sh : Int) < (lx : Int) := by omega
    have HP := hide (HS1.out h1)
    clear HS1 HS2 HRR Nl Nh hX h1 LL
    go_enter Tryz.func61, Tryz.ntmps61
    go_wp2_with fail
    rw [← HW0.out]
    refine LA.mono ?_
    rintro e' wn ⟨rfl, hw⟩; rw [hw]; clear hw wn LA
    go_wp2
    go_region_held3 (fun w' => w'.cell? ⟨w.heap.size, 0, none⟩ = some (.slice al ml kl) ∧ w'.cell? ⟨w.heap.size, 1, none⟩ = some (.slice ah mh kh) ∧ w'.cell? ⟨w.heap.size, 2, none⟩ = some (.int .i64 (e : Int))) (go_keep) (first | (go_at_call 52; refine LH.mono ?_; rintro e' wn ⟨rfl, hw⟩; subst hw))
    go_wp2
    go_ret
    exact ⟨⟨_, rfl, .inl ⟨rfl, HP.out⟩⟩, HB.out.drew⟩
  · have i1 : ¬ (sh : Int) < (lx : Int) := by omega
    by_cases h2 : lx < sl
    · have i2 : (lx : Int) < (sl : Int) := by omega
      have HP := hide (HS2.out h2)
      clear HS1 HS2 HRR Nl Nh hX h1 h2
      go_enter Tryz.func61, Tryz.ntmps61
      go_wp2_with fail
      rw [← HW0.out]
      refine LA.mono ?_
      rintro e' wn ⟨rfl, hw⟩; rw [hw]; clear hw wn LA
      go_wp2
      go_region_held3 (fun w' => w'.cell? ⟨w.heap.size, 0, none⟩ = some (.slice al ml kl) ∧ w'.cell? ⟨w.heap.size, 1, none⟩ = some (.slice ah mh kh) ∧ w'.cell? ⟨w.heap.size, 2, none⟩ = some (.int .i64 (e : Int))) (go_keep) (first | (go_at_call 52; refine LH.mono ?_; rintro e' wn ⟨rfl, hw⟩; subst hw))
      go_wp2
      go_region_held3 (fun w' => w'.cell? ⟨w.heap.size, 0, none⟩ = some (.slice al ml kl) ∧ w'.cell? ⟨w.heap.size, 1, none⟩ = some (.slice ah mh kh) ∧ w'.cell? ⟨w.heap.size, 2, none⟩ = some (.int .i64 (e : Int))) (go_keep) (first | (go_at_call 52; refine LL.mono ?_; rintro e' wn ⟨rfl, hw⟩; subst hw))
      go_wp2
      go_ret
      exact ⟨⟨_, rfl, .inr (.inl ⟨rfl, HP.out⟩)⟩, HB.out.drew.drew⟩
    · have i2 : ¬ (lx : Int) < (sl : Int) := by omega
      have FD := (rdown_any va X e w0.drew.drew hX.drew.drew (by omega) (by omega)).mono fun _ _ h => h.nb
      replace HB : Hid (Below w.heap.size w w0.drew.drew) := hide HB.out.drew.drew
      replace Nl := Nl.drew4.drew4; replace Nh := Nh.drew4.drew4
      clear HS1 HS2 h1 h2 hX
      go_enter Tryz.func61, Tryz.ntmps61
      go_wp2_with fail
      rw [← HW0.out]
      refine LA.mono ?_
      rintro e' wn ⟨rfl, hw⟩; rw [hw]; clear hw wn LA
      go_wp2
      go_region_held3 (fun w' => w'.cell? ⟨w.heap.size, 0, none⟩ = some (.slice al ml kl) ∧ w'.cell? ⟨w.heap.size, 1, none⟩ = some (.slice ah mh kh) ∧ w'.cell? ⟨w.heap.size, 2, none⟩ = some (.int .i64 (e : Int))) (go_keep) (first | (go_at_call 52; refine LH.mono ?_; rintro e' wn ⟨rfl, hw⟩; subst hw))
      go_wp2
      go_region_held3 (fun w' => w'.cell? ⟨w.heap.size, 0, none⟩ = some (.slice al ml kl) ∧ w'.cell? ⟨w.heap.size, 1, none⟩ = some (.slice ah mh kh) ∧ w'.cell? ⟨w.heap.size, 2, none⟩ = some (.int .i64 (e : Int))) (go_keep) (first | (go_at_call 52; refine LL.mono ?_; rintro e' wn ⟨rfl, hw⟩; subst hw))
      go_wp2_with fail
      refine FD.mono ?_
      rintro e' w1 ⟨⟨vd, rfl, Nd⟩, hb⟩
      replace c0 := cell_up4 hb (show w0.drew.drew.cell? _ = _ from c0); replace c1 := cell_up4 hb (show w0.drew.drew.cell? _ = _ from c1); replace Nl := Nl.below hb; replace Nh := Nh.below hb
      replace HB := hid_below HB hb
      clear hb FD c2 i1 i2
      have hbd := HBD.out
      have HC := ncmp Nh Nd (by have := HBH.out.1; omega) hbd
      by_cases h1 : h < val X / 2 ^ e
      · rw [cmpN_lt h1] at HC
        have HP := hide (abt_below HRR.out h1)
        clear h1 Nl Nh Nd hbd
        go_wp2_with fail
        refine HC.mono ?_
        rintro e' w2 ⟨rfl, hsm⟩
        have hb := hsm.below w1.heap.size
        replace HB := hid_below HB hb
        clear hb hsm HC
        go_wp2
        go_ret
        exact ⟨⟨_, rfl, .inl ⟨rfl, HP.out⟩⟩, HB.out⟩
      · have hge := cmpN_ge (show val X / 2 ^ e ≤ h by omega)
        obtain ⟨cc, hcc⟩ : ∃ cc, cmpN h (val X / 2 ^ e) = cc := ⟨_, rfl⟩
        rw [hcc] at HC hge
        have i3 : ¬ cc < 0 := by omega
        have H1 := hide h1
        clear hcc hge h1
        go_wp2_with fail
        refine HC.mono ?_
        rintro e' w2 ⟨rfl, hsm⟩
        have hb := hsm.below w1.heap.size
        replace HB := hid_below HB hb
        replace c0 := cell_up4 hb c0; replace Nl := Nl.below hb; replace Nd := Nd.below hb
        clear hb hsm HC c1 Nh
        have HC := ncmp Nl Nd (by have := HBH.out.2; omega) hbd
        clear hbd Nl Nd
        by_cases h2 : val X / 2 ^ e < l
        · rw [cmpN_gt h2] at HC
          have HP := hide (abt_above HRR.out h2)
          clear h2
          go_wp2_with fail
          refine HC.mono ?_
          rintro e' w3 ⟨rfl, hsm⟩
          have hb := hsm.below w2.heap.size
          replace HB := hid_below HB hb
          clear hb hsm HC
          go_wp2
          go_ret
          exact ⟨⟨_, rfl, .inr (.inl ⟨rfl, HP.out⟩)⟩, HB.out⟩
        · have i4 : ¬ (0 : Int) < cmpN l (val X / 2 ^ e) := by
            have := cmpN_le (show l ≤ val X / 2 ^ e by omega)
            omega
          obtain ⟨cd, hcd⟩ : ∃ cd, cmpN l (val X / 2 ^ e) = cd := ⟨_, rfl⟩
          rw [hcd] at HC i4
          have HP : Hid (Side 0 p c (val X)) := hide (.inr (.inr ⟨rfl, l, h, e, HRR.out, by omega, by have := H1.out; omega⟩))
          clear h2 hcd
          go_wp2_with fail
          refine HC.mono ?_
          rintro e' w3 ⟨rfl, hsm⟩
          have hb := hsm.below w2.heap.size
          replace HB := hid_below HB hb
          clear hb hsm HC
          go_wp2
          go_ret
          exact ⟨⟨_, rfl, HP.out⟩, HB.out⟩

end Go.Proofs.YteecnckfkcmefaaGreatDoor

/- Package roots: powerAbout, greatest. -/
namespace Go.Proofs.YteecnckfkcmefaaGreatDoor
open Go.RowKit
open Lm
attribute [local go_sem ↓] Go.wp_at_zero Go.wp_at_succ

/-- About p, in a block. -/
def AbAt (w : World) (g p c : Nat) : Prop := ∃ vl vh l h e, w.heap[g]? = some (.cells #[vl, vh, .int .i64 ((e : Nat) : Int)] 87) ∧ Nb w 0 vl l ∧ Nb w 0 vh h ∧ Abt p c l h e

theorem AbAt.take {w : World} {g p c : Nat} (h : AbAt w g p c) : ∃ (a1 : Option Addr) (m1 k1 : Nat) (a2 : Option Addr) (m2 k2 : Nat) (e : Nat), w.heap[g]? = some (.cells #[.slice a1 m1 k1, .slice a2 m2 k2, .int .i64 (e : Int)] 87) ∧ Ab w (.agg #[.slice a1 m1 k1, .slice a2 m2 k2, .int .i64 (e : Int)]) p c := by
  obtain ⟨vl, vh, l, h, e, h1, h2, h3, h4⟩ := h
  obtain ⟨a1, m1, k1, rfl⟩ := h2.slice
  obtain ⟨a2, m2, k2, rfl⟩ := h3.slice
  exact ⟨a1, m1, k1, a2, m2, k2, e, h1, _, _, l, h, e, rfl, h2, h3, h4⟩

theorem Ab.shape {w : World} {v : Value} {p c : Nat} (h : Ab w v p c) : ∃ (a1 : Option Addr) (m1 k1 : Nat) (a2 : Option Addr) (m2 k2 : Nat) (e : Nat), v = .agg #[.slice a1 m1 k1, .slice a2 m2 k2, .int .i64 (e : Int)] := by
  obtain ⟨vl, vh, l, h, e, h1, h2, h3, _⟩ := h
  obtain ⟨a1, m1, k1, rfl⟩ := h2.slice
  obtain ⟨a2, m2, k2, rfl⟩ := h3.slice
  exact ⟨a1, m1, k1, a2, m2, k2, e, h1⟩

theorem AbAt.below {w w' : World} {g p c : Nat} (h : AbAt w g p c) (hb : Below w.heap.size w w') : AbAt w' g p c := by
  obtain ⟨vl, vh, l, h, e, h1, h2, h3, h4⟩ := h
  exact ⟨vl, vh, l, h, e, by rw [hb.block g (lt_of_block h1)]; exact h1, h2.below hb, h3.below hb, h4⟩

theorem AbAt.of {w : World} {g p c e : Nat} {vl vh : Value} (h1 : w.heap[g]? = some (.cells #[vl, vh, .int .i64 (e : Int)] 87)) (hA : Ab w (.agg #[vl, vh, .int .i64 (e : Int)]) p c) : AbAt w g p c := by
  obtain ⟨vl', vh', l, h, e', hv, h2, h3, h4⟩ := hA
  injection hv with hv
  have q0 := congrArg (fun a => a[0]?) hv
  have q1 := congrArg (fun a => a[1]?) hv
  have q2 := congrArg (fun a => a[2]?) hv
  simp at q0 q1 q2
  subst q0; subst q1
  obtain rfl : e = e' := by omega
  exact ⟨_, _, l, h, e, h1, h2, h3, h4⟩

theorem AbAt.other {w : World} {g g' p c : Nat} {u0 u1 u2 a b d : Value} (h : AbAt w g p c) (hl : w.heap[g']? = some (.cells #[a, b, d] 87)) (hne : g ≠ g') : AbAt (((w.setCell ⟨g', 0, none⟩ u0).setCell ⟨g', 1, none⟩ u1).setCell ⟨g', 2, none⟩ u2) g p c := by
  obtain ⟨vl, vh, l, h, e, h1, h2, h3, h4⟩ := h
  exact ⟨vl, vh, l, h, e, box_other4 (box_other4 (box_other4 h1 hne) hne) hne, h2.set3 hl, h3.set3 hl, h4⟩

theorem AbAt.stored {w : World} {g p c e : Nat} {vl vh a b d : Value} (hA : Ab w (.agg #[vl, vh, .int .i64 (e : Int)]) p c) (hl : w.heap[g]? = some (.cells #[a, b, d] 87)) : AbAt (((w.setCell ⟨g, 0, none⟩ vl).setCell ⟨g, 1, none⟩ vh).setCell ⟨g, 2, none⟩ (.int .i64 (e : Int))) g p c :=
  AbAt.of (box3_all hl) (hA.set3 hl)

namespace Lm

theorem pow_len {v n m : Nat} (hv : 0 < v) (hn : 1 ≤ n) (hm : m ≤ n) (h : blen v * n ≤ 2305843009213693952) : blen (v ^ m) ≤ 2305843009213693952 := by
  refine Nat.le_trans ((blen_le_iff _ _).2 ?_) h
  have h1 := (blen_le_iff v _).1 (Nat.le_refl _)
  rw [Nat.pow_mul]
  exact Nat.lt_of_le_of_lt (Nat.pow_le_pow_right hv hm) (Nat.pow_lt_pow_left h1 (by omega))

end Lm

set_option maxRecDepth 20000 in
set_option maxHeartbeats 4000000 in
theorem powerAbout_any (va : Value) (x n : Nat) (w : World) (hN : Nb w 0 va x) (hT : Tab w) (hx : 0 < x) (hbx : blen x ≤ 67108864) (hn1 : 1 ≤ n) (hn : n ≤ 1125899906842624) (hxn : blen x * n ≤ 2305843009213693952) :
    Calls Tryz.prog 60 #[va, .int .i64 n] w fun en w' => (∃ v, en = .returned v ∧ Ab w' v (x ^ n) (2 * n)) ∧ Below w.heap.size w w' := by
  have HLN := fun W => Tryz.bits_Len (n : Int) W (by omega) (by omega)
  rw [Int.toNat_natCast] at HLN
  have wn : IntKind.u64.wrap (n : Int) = (n : Int) := by rw [IntKind.wrap_u64]; omega
  obtain ⟨L, hL⟩ : ∃ L, Lib.bitLen n = L := ⟨_, rfl⟩
  have hnl : n < 2 ^ L := by
    obtain ⟨_, _, h3⟩ := Lib.bitLenAux_bounds 64 n (by omega) (by omega)
    rw [← hL]; exact h3
  have hL64 : L ≤ 64 := by rw [← hL]; exact Lib.bitLen_le n 64 (by omega) (by omega)
  have hL1 : 1 ≤ L := by
    rcases Nat.eq_zero_or_pos L with h0 | h0
    · rw [h0] at hnl; omega
    · exact h0
  have hnl2 : n / 2 ^ (L - 1) = 1 := by
    have hge : 2 ^ (L - 1) ≤ n := by
      obtain ⟨_, h2, _⟩ := Lib.bitLenAux_bounds 64 n (by omega) (by omega)
      rw [← hL]; exact h2
    refine Nat.div_eq_of_lt_le (by omega) ?_
    have : 2 ^ L = 2 ^ (L - 1) * 2 := by rw [← Nat.pow_succ]; congr 1; omega
    omega
  rw [hL] at HLN
  obtain ⟨w0, hw0⟩ : ∃ w0, w0 = w.alloc (.cells #[.slice none 0 0, .slice none 0 0, .int .i64 0] 87) := ⟨_, rfl⟩
  have hb0 : Below w.heap.size w w0 := by rw [hw0]; exact (Below.refl _ _).alloc (Nat.le_refl _) _
  have hs0 : w0.heap.size = w.heap.size + 1 := by rw [hw0]; exact World.size_alloc _ _
  have hk0 : w0.heap[w.heap.size]? = some (.cells #[.slice none 0 0, .slice none 0 0, .int .i64 0] 87) := by rw [hw0]; exact heap_alloc_new ..
  have F1 := cut_any va va x x 0 x 0 w0 (hN.below hb0) (hN.below hb0) (abt_first hx) (by decide) hbx (by omega)
  obtain ⟨s1, s2, s3, rfl⟩ := hN.slice
  have HW0 := hide hw0
  have HK0 := hide hk0
  have HB0 := hide hb0
  have HT := hide hT
  have HX := hide (And.intro hx hxn)
  have HN := hide (And.intro hnl2 hn1)
  have HS0 := hide hs0
  clear hw0 hb0 hs0 hk0 hT hN hL hnl hnl2 hx hxn
  go_enter Tryz.func60, Tryz.ntmps60
  go_wp2_with fail
  rw [← HW0.out]
  refine F1.mono ?_
  rintro e w1 ⟨⟨v1, rfl, A1⟩, hb1⟩
  obtain ⟨p1, p2, p3, p4, p5, p6, e1, rfl⟩ := A1.shape
  have hba : Below w1.heap.size w1 (w1.alloc (.cells #[.slice p1 p2 p3, .slice p4 p5 p6, .int .i64 (e1 : Int)] 87)) := below_one _ _
  obtain ⟨c0, c1, c2⟩ := box3 (show (w1.alloc (.cells #[.slice p1 p2 p3, .slice p4 p5 p6, .int .i64 (e1 : Int)] 87)).heap[w1.heap.size]? = _ from heap_alloc_new ..)
  obtain ⟨w2, hw2⟩ : ∃ w2, (w1.alloc (.cells #[.slice p1 p2 p3, .slice p4 p5 p6, .int .i64 (e1 : Int)] 87)).alloc (.cells #[.slice p1 p2 p3, .slice p4 p5 p6, .int .i64 (e1 : Int)] 87) = w2 := ⟨_, rfl⟩
  have hs1 : (w1.alloc (.cells #[.slice p1 p2 p3, .slice p4 p5 p6, .int .i64 (e1 : Int)] 87)).heap.size = w1.heap.size + 1 := World.size_alloc _ _
  have hb2 : Below w1.heap.size w1 w2 := by rw [← hw2]; exact hba.alloc hba.size _
  have hb3 : Below (w1.alloc (.cells #[.slice p1 p2 p3, .slice p4 p5 p6, .int .i64 (e1 : Int)] 87)).heap.size (w1.alloc (.cells #[.slice p1 p2 p3, .slice p4 p5 p6, .int .i64 (e1 : Int)] 87)) w2 := by rw [← hw2]; exact below_one _ _
  have G1 : AbAt w2 w1.heap.size x 1 := AbAt.of (e := e1) (by rw [hb3.block w1.heap.size (by omega)]; exact heap_alloc_new ..) (A1.below hb2)
  have G2 : AbAt w2 (w1.heap.size + 1) x 1 := AbAt.of (e := e1) (by
    have h := heap_alloc_new (w1.alloc (.cells #[.slice p1 p2 p3, .slice p4 p5 p6, .int .i64 (e1 : Int)] 87)) (.cells #[.slice p1 p2 p3, .slice p4 p5 p6, .int .i64 (e1 : Int)] 87)
    rw [hs1, hw2] at h
    exact h) (A1.below hb2)
  have G0 : w2.heap[w.heap.size]? = some (.cells #[.slice none 0 0, .slice none 0 0, .int .i64 0] 87) := by
    have hb := hb1.trans (hb2.mono hb1.size)
    rw [hb.block w.heap.size (by have := HS0.out; omega)]; exact HK0.out
  have HBW : Hid (Below w.heap.size w w2) := hide ((HB0.out.trans (hb1.mono HB0.out.size)).trans (hb2.mono (HB0.out.trans (hb1.mono HB0.out.size)).size))
  have hlt : w.heap.size < w1.heap.size := by have := hb1.size; have := HS0.out; omega
  obtain ⟨g1, hg1⟩ : ∃ g1, w1.heap.size = g1 := ⟨_, rfl⟩
  obtain ⟨g2, hg2⟩ : ∃ g2, g1 + 1 = g2 := ⟨_, rfl⟩
  rw [hg1] at G1 hlt
  rw [hg1, hg2] at G2
  have HW2 := hide hw2
  have HG := hide (And.intro hg1 hg2)
  have ST := hide (And.intro G1 (And.intro G2 G0))
  have hg12 : g1 < g2 := by omega
  clear F1 A1 hb1 hba hb2 hb3 G1 G2 G0 hw2 hs1 hg1 hg2 HB0 HK0
  go_wp2_with fail
  rw [HW2.out]
  refine (HLN _).mono ?_
  rintro e wn' ⟨rfl, hw⟩; rw [hw]; clear hw wn' HLN c0 c1 c2
  rw [HG.out.1, HG.out.2]
  obtain ⟨M, hM⟩ : ∃ M, L = M + 1 := ⟨L - 1, by omega⟩
  have eM : (L : Int) - 2 = (M : Int) - 1 := by omega
  go_wp2
  go_loopw [7] (fun i wr => ∃ (k : Nat), i = .int .i64 ((k : Int) - 1) ∧ k ≤ M ∧ AbAt wr g1 x 1 ∧ AbAt wr g2 (x ^ (n / 2 ^ k)) (2 * (n / 2 ^ k) - 1) ∧ wr.heap[w.heap.size]? = some (.cells #[.slice none 0 0, .slice none 0 0, .int .i64 0] 87) ∧ Below w.heap.size w wr) (fun i _ => (intOf i + 1).toNat)
  case atStart =>
    refine ⟨M, by rw [show (M : Int) + 1 - 2 = (M : Int) - 1 by omega], Nat.le_refl _, ST.out.1, ?_, ST.out.2.2, HBW.out⟩
    have h := HN.out.1
    rw [hM, Nat.add_sub_cancel] at h
    rw [h, Nat.pow_one]
    exact ST.out.2.1
  case round =>
    obtain ⟨k, rfl, hk, hg1, hg2, hg0, hbel⟩ := hrel
    have HG1 := hide hg1
    have HG0 := hide hg0
    have HBW := hide hbel
    clear hg1 hg0 hbel ST
    obtain ⟨p1, p2, p3, p4, p5, p6, e2, hk2, A2⟩ := hg2.take
    obtain ⟨c0, c1, c2⟩ := box3 hk2
    by_cases hk0 : k = 0
    · subst hk0
      rw [Nat.pow_zero, Nat.div_one] at A2
      have HA2 := hide A2
      obtain ⟨d0, d1, d2⟩ := box3 HG0.out
      have hf := box3f HG0.out
      clear A2 hg2 hk2
      go_wp2
      have R5 := box3_all HG0.out (a' := .slice p1 p2 p3) (b' := .slice p4 p5 p6) (c' := .int .i64 (e2 : Int))
      have HD := hide (And.intro (HA2.out.set3 (u0 := .slice p1 p2 p3) (u1 := .slice p4 p5 p6) (u2 := .int .i64 (e2 : Int)) HG0.out) (below_set3 HBW.out (u0 := .slice p1 p2 p3) (u1 := .slice p4 p5 p6) (u2 := .int .i64 (e2 : Int)) (Nat.le_refl _)))
      generalize ((wr.setCell ⟨w.heap.size, 0, none⟩ (.slice p1 p2 p3)).setCell ⟨w.heap.size, 1, none⟩ (.slice p4 p5 p6)).setCell ⟨w.heap.size, 2, none⟩ (.int .i64 (e2 : Int)) = w5 at *
      obtain ⟨q0, q1, q2⟩ := box3 R5
      clear c0 c1 c2 d0 d1 d2 hf HA2 HG0
      refine bodyPost_ret (v := .agg #[.slice p1 p2 p3, .slice p4 p5 p6, .int .i64 (e2 : Int)]) (by simp [results, Tryz.results60, go_sem, q0, q1, q2]) rfl ?_
      refine ⟨⟨_, rfl, ?_⟩, HD.out.2⟩
      obtain ⟨a, b, l, h, e, r1, r2, r3, r4⟩ := HD.out.1
      exact ⟨a, b, l, h, e, r1, r2, r3, abt_le r4 (by omega)⟩
    · obtain ⟨j, rfl⟩ : ∃ j, k = j + 1 := ⟨k - 1, by omega⟩
      have ej : (((j + 1 : Nat) : Int) - 1) = (j : Int) := by omega
      rw [ej]
      have hj0 : (0 : Int) ≤ (j : Int) := by omega
      have hj64 : j < 64 := by omega
      have hst := bits_step n j
      have hle : n / 2 ^ j ≤ n := Nat.div_le_self _ _
      have hsh : (n : Int) / 2 ^ j = ((n / 2 ^ j : Nat) : Int) := by rw [Int.natCast_ediv, Int.natCast_pow]; rfl
      have hand := i64_and1 ((n / 2 ^ j : Nat) : Int)
      have hm2 : ((n / 2 ^ j : Nat) : Int) % 2 = ((n / 2 ^ j % 2 : Nat) : Int) := by omega
      rw [hm2] at hand
      have wj : IntKind.i64.wrap (((n / 2 ^ j : Nat)) : Int) = (((n / 2 ^ j : Nat)) : Int) := by rw [IntKind.wrap_i64]; omega
      have hp1 : 1 ≤ n / 2 ^ (j + 1) := by
        have h := HN.out.1
        rw [hM, Nat.add_sub_cancel] at h
        exact Nat.le_trans (Nat.le_of_eq h.symm) (Nat.div_le_div_left (Nat.pow_le_pow_right (by omega) hk) (Nat.two_pow_pos _))
      generalize n / 2 ^ (j + 1) = p at *
      obtain ⟨q, hq⟩ : ∃ q, n / 2 ^ j = q := ⟨_, rfl⟩
      rw [hq] at hst hle hsh hand hm2 wj
      have HQD := hide hq
      have HQ := hide (And.intro hst (And.intro hle hp1))
      have F1 := times_any _ _ _ _ _ _ wr A2 A2 (HT.out.below HBW.out) (by omega) (by rw [← Nat.pow_add]; exact pow_len HX.out.1 HN.out.2 (by omega) HX.out.2)
      have e2p : x ^ p * x ^ p = x ^ (2 * p) := by rw [← Nat.pow_add]; congr 1; omega
      rw [e2p, show 2 * p - 1 + (2 * p - 1) + 1 = 2 * (2 * p) - 1 by omega] at F1
      have HK2 := hide hk2
      clear hg2 A2 hq hst hp1 e2p hk2
      go_wp2_with fail
      refine F1.mono ?_
      rintro e w3 ⟨⟨v3, rfl, A3⟩, hb3⟩
      obtain ⟨q1, q2, q3, q4, q5, q6, e3, rfl⟩ := A3.shape
      have hk3 : w3.heap[g2]? = some (.cells #[.slice p1 p2 p3, .slice p4 p5 p6, .int .i64 (e2 : Int)] 87) := by rw [hb3.block g2 (lt_of_block HK2.out)]; exact HK2.out
      have hf := box3f hk3
      obtain ⟨c0, c1, c2⟩ := box3 hk3
      have hB3 := HBW.out.trans (hb3.mono HBW.out.size)
      obtain ⟨w4, hw4⟩ : ∃ w4, ((w3.setCell ⟨g2, 0, none⟩ (.slice q1 q2 q3)).setCell ⟨g2, 1, none⟩ (.slice q4 q5 q6)).setCell ⟨g2, 2, none⟩ (.int .i64 (e3 : Int)) = w4 := ⟨_, rfl⟩
      have G1 : AbAt w4 g1 x 1 := by rw [← hw4]; exact (HG1.out.below hb3).other hk3 (by omega)
      have G2 : AbAt w4 g2 (x ^ (2 * p)) (2 * (2 * p) - 1) := by rw [← hw4]; exact AbAt.stored A3 hk3
      have G0 : w4.heap[w.heap.size]? = some (.cells #[.slice none 0 0, .slice none 0 0, .int .i64 0] 87) := by
        rw [← hw4]
        refine box_other4 (box_other4 (box_other4 ?_ (by omega)) (by omega)) (by omega)
        rw [hb3.block w.heap.size (lt_of_block HG0.out)]; exact HG0.out
      have HBW4 : Hid (Below w.heap.size w w4) := hide (by rw [← hw4]; exact below_set3 hB3 (by omega))
      have HG1 := hide G1
      have HG2 := hide G2
      have HG0 := hide G0
      have HW4 := hide hw4
      clear F1 A3 hb3 hB3 G1 G2 G0 hk3
      rcases Nat.mod_two_eq_zero_or_one q with h0 | h1
      · rw [h0] at hand
        have HEQ : Hid (2 * p = q) := hide (by have := HQ.out.1; omega)
        clear h0 hw4
        go_wp2
        go_roundw
        case rel => exact ⟨j, rfl, by omega, by rw [HW4.out]; exact HG1.out, by rw [HW4.out, HQD.out, ← HEQ.out]; exact HG2.out, by rw [HW4.out]; exact HG0.out, by rw [HW4.out]; exact HBW4.out⟩
        case measure => simp [intOf]
      · rw [h1] at hand
        have HEQ : Hid (2 * p + 1 = q) := hide (by have := HQ.out.1; omega)
        obtain ⟨t1, t2, t3, t4, t5, t6, e4, k4, B4⟩ := HG1.out.take
        obtain ⟨u1, u2, u3, u4, u5, u6, e5, k5, B5⟩ := HG2.out.take
        have F1 := times_any _ _ _ _ _ _ w4 B5 B4 (HT.out.below HBW4.out) (by have := HQ.out; omega) (by rw [← Nat.pow_succ]; exact pow_len HX.out.1 HN.out.2 (by have := HQ.out; have := HEQ.out; omega) HX.out.2)
        have e2q : x ^ (2 * p) * x = x ^ q := by rw [← Nat.pow_succ, ← HEQ.out]
        rw [e2q, show 2 * (2 * p) - 1 + 1 + 1 = 2 * q - 1 by have := HEQ.out; have := HQ.out.2.2; omega] at F1
        have HK5 := hide k5
        have d0 := box3 k4
        have d1 := box3 k5
        rw [← hw4] at d0 d1
        obtain ⟨x0, x1, x2⟩ := d0
        obtain ⟨y0, y1, y2⟩ := d1
        clear h1 hw4 k4 k5 B4 B5
        go_wp2_with fail
        rw [HW4.out]
        refine F1.mono ?_
        rintro e w5 ⟨⟨v5, rfl, A5⟩, hb5⟩
        clear x0 x1 x2 y0 y1 y2 c0 c1 c2 hf
        obtain ⟨z1, z2, z3, z4, z5, z6, e6, rfl⟩ := A5.shape
        have hk6 : w5.heap[g2]? = some (.cells #[.slice u1 u2 u3, .slice u4 u5 u6, .int .i64 (e5 : Int)] 87) := by rw [hb5.block g2 (lt_of_block HK5.out)]; exact HK5.out
        have hf := box3f hk6
        obtain ⟨c0, c1, c2⟩ := box3 hk6
        have hB5 := HBW4.out.trans (hb5.mono HBW4.out.size)
        obtain ⟨w6, hw6⟩ : ∃ w6, ((w5.setCell ⟨g2, 0, none⟩ (.slice z1 z2 z3)).setCell ⟨g2, 1, none⟩ (.slice z4 z5 z6)).setCell ⟨g2, 2, none⟩ (.int .i64 (e6 : Int)) = w6 := ⟨_, rfl⟩
        have G1 : AbAt w6 g1 x 1 := by rw [← hw6]; exact (HG1.out.below hb5).other hk6 (by omega)
        have G2 : AbAt w6 g2 (x ^ q) (2 * q - 1) := by rw [← hw6]; exact AbAt.stored A5 hk6
        have G0 : w6.heap[w.heap.size]? = some (.cells #[.slice none 0 0, .slice none 0 0, .int .i64 0] 87) := by
          rw [← hw6]
          refine box_other4 (box_other4 (box_other4 ?_ (by omega)) (by omega)) (by omega)
          rw [hb5.block w.heap.size (lt_of_block HG0.out)]; exact HG0.out
        have HBW6 : Hid (Below w.heap.size w w6) := hide (by rw [← hw6]; exact below_set3 hB5 (by omega))
        have HH1 := hide G1
        have HH2 := hide G2
        have HH0 := hide G0
        have HW6 := hide hw6
        clear F1 A5 hb5 hB5 G1 G2 G0 hk6 hw6
        go_wp2
        go_roundw
        case rel => exact ⟨j, rfl, by omega, by rw [HW6.out]; exact HH1.out, by rw [HW6.out, HQD.out]; exact HH2.out, by rw [HW6.out]; exact HH0.out, by rw [HW6.out]; exact HBW6.out⟩
        case measure => simp [intOf]

set_option maxRecDepth 20000 in
set_option maxHeartbeats 2000000 in
theorem greatest_root (c1 c2 : Value) (n L : Nat) (Q : Nat → Prop) (w : World) (hn : n ≤ 64) (hL : L < 2 ^ n)
    (HC : ∀ (v : Nat) (w' : World), 0 < v → v < 2 ^ n → Below w.heap.size w w' → Calls Tryz.prog 94 #[.int .u64 (v : Int), c1, c2] w' fun e w'' => (∃ s : Int, e = .returned (.int .i64 s) ∧ ((s = -1 ∧ v ≤ L) ∨ (s = 1 ∧ L < v) ∨ (s = 0 ∧ Q v))) ∧ Below w'.heap.size w' w'') :
    Calls Tryz.prog 57 #[.int .i64 (n : Int), .func (.func 94) #[] #[c1, c2]] w fun e w' => (∃ (v : Nat) (sure : Bool), e = .returned (.tuple #[.int .u64 (v : Int), .bool sure]) ∧ v < 2 ^ n ∧ ((sure = true ∧ v = L) ∨ (sure = false ∧ 0 < v ∧ Q v))) ∧ Below w.heap.size w w' := by
  have HCC := hide HC
  have HLL := hide hL
  clear HC hL
  go_enter Tryz.func57, Tryz.ntmps57
  go_wp2
  go_loopw [4, 6] (fun v i wr => ∃ (b V a : Nat), v = .int .u64 (a : Int) ∧ i = .int .i64 ((b : Int) - 1) ∧ a = V * 2 ^ b ∧ b ≤ n ∧ V * 2 ^ b ≤ L ∧ L < (V + 1) * 2 ^ b ∧ Below w.heap.size w wr) (fun _ i _ => (intOf i + 1).toNat)
  case atStart =>
    exact ⟨n, 0, 0, rfl, rfl, by simp, Nat.le_refl _, by omega, by rw [Nat.zero_add, Nat.one_mul]; exact HLL.out, Below.refl _ _⟩
  case round =>
    obtain ⟨b, V, a, rfl, rfl, ha, hb, h1, h2, hbel⟩ := hrel
    have HB := hide hbel
    clear hbel
    have hlt : V * 2 ^ b < 2 ^ n := by have := HLL.out; omega
    by_cases hb0 : b = 0
    · subst hb0
      rw [Nat.pow_zero, Nat.mul_one] at h1 h2 hlt ha
      obtain rfl : a = L := by omega
      have HLT := hide hlt
      have HVA := hide ha
      clear h1 h2 hlt ha
      go_wp2
      go_returns
      exact ⟨⟨a, true, rfl, by have := HLT.out; have := HVA.out; omega, .inl ⟨rfl, rfl⟩⟩, HB.out⟩
    · obtain ⟨d, rfl⟩ : ∃ d, b = d + 1 := ⟨b - 1, by omega⟩
      have ed : (((d + 1 : Nat) : Int) - 1) = (d : Int) := by omega
      rw [ed]
      have hd0 : (0 : Int) ≤ (d : Int) := by omega
      have hd64 : d < 64 := by omega
      have hp : 2 ^ (d + 1) = 2 * 2 ^ d := by rw [Nat.pow_succ]; omega
      have hdp := Nat.two_pow_pos d
      have hn64 : 2 ^ n ≤ 18446744073709551616 := Nat.pow_le_pow_right (n := 2) (by omega) hn
      obtain ⟨U, hU⟩ : ∃ U, V * 2 ^ (d + 1) + 2 ^ d = U := ⟨_, rfl⟩
      have hUn : U < 2 ^ n := by
        have h3 : (V + 1) * 2 ^ (d + 1) ≤ 2 ^ n := by
          have h4 : V < 2 ^ (n - (d + 1)) := by
            refine Nat.lt_of_mul_lt_mul_right (a := 2 ^ (d + 1)) ?_
            rw [← Nat.pow_add, show n - (d + 1) + (d + 1) = n by omega]
            exact hlt
          have h5 := Nat.mul_le_mul_right (2 ^ (d + 1)) (Nat.succ_le_of_lt h4)
          rw [← Nat.pow_add, show n - (d + 1) + (d + 1) = n by omega] at h5
          exact h5
        rw [Nat.add_mul, Nat.one_mul] at h3
        omega
      have hor := or_add V (d + 1) (2 ^ d) U (by omega) (by omega) (by omega) hU.symm
      rw [← ha] at hor
      have rsh := wrap_mul 1 d (2 ^ d) (by rw [Nat.one_mul]; exact Nat.mod_eq_of_lt (by omega))
      have rsh2 : IntKind.u64.wrap ((2 : Int) ^ d) = ((2 ^ d : Nat) : Int) := by
        rw [show ((1 : Nat) : Int) * 2 ^ d = (2 : Int) ^ d by simp] at rsh
        exact rsh
      have hU1 : U = (2 * V + 1) * 2 ^ d := by rw [← hU, hp]; grind
      have hV1 : V * 2 ^ (d + 1) = (2 * V) * 2 ^ d := by rw [hp]; grind
      have hV2 : (V + 1) * 2 ^ (d + 1) = (2 * V + 1 + 1) * 2 ^ d := by rw [hp]; grind
      have F1 := HCC.out U wr (by omega) hUn HB.out
      have HU1 := hide (And.intro hU1 (And.intro hV1 (And.intro hV2 (And.intro ha (And.intro h1 h2)))))
      have HUN := hide hUn
      have hU0 : 0 < U := by omega
      obtain ⟨D, hD⟩ : ∃ D, 2 ^ d = D := ⟨_, rfl⟩
      rw [hD] at hor rsh2 rsh
      have hbn : d ≤ n := by omega
      clear hU1 hV1 hV2 ha h1 h2 hU hUn hp hdp hn64 hlt hb hD hb0 ed
      go_wp2_with fail
      refine F1.mono ?_
      rintro e w3 ⟨⟨s, rfl, hs⟩, hb3⟩
      have HB3 := hide (HB.out.trans (hb3.mono HB.out.size))
      clear hb3 F1
      rcases hs with ⟨rfl, h⟩ | ⟨rfl, h⟩ | ⟨rfl, h⟩
      · have HS := hide h
        clear h
        go_wp2
        go_roundw
        case rel =>
          obtain ⟨q1, q2, q3, q4, q5, q6⟩ := HU1.out
          have q7 := HS.out
          exact ⟨d, 2 * V + 1, U, rfl, rfl, q1, hbn, by omega, by omega, HB3.out⟩
        case measure => simp [intOf]
      · have HS := hide h
        clear h
        go_wp2
        go_roundw
        case rel =>
          obtain ⟨q1, q2, q3, q4, q5, q6⟩ := HU1.out
          have q7 := HS.out
          exact ⟨d, 2 * V, a, rfl, rfl, by omega, hbn, by omega, by omega, HB3.out⟩
        case measure => simp [intOf]
      · have HS := hide h
        clear h
        go_wp2
        go_returns
        exact ⟨⟨U, false, rfl, HUN.out, .inr ⟨rfl, hU0, HS.out⟩⟩, HB3.out⟩

set_option maxRecDepth 20000 in
set_option maxHeartbeats 2000000 in
theorem greatest_log (c1 c2 : Value) (n L : Nat) (Q : Nat → Prop) (w : World) (hn : n ≤ 64) (hL : L < 2 ^ n)
    (HC : ∀ (v : Nat) (w' : World), 0 < v → v < 2 ^ n → Below w.heap.size w w' → Calls Tryz.prog 59 #[.int .u64 (v : Int), c1, c2] w' fun e w'' => (∃ s : Int, e = .returned (.int .i64 s) ∧ ((s = -1 ∧ v ≤ L) ∨ (s = 1 ∧ L < v) ∨ (s = 0 ∧ Q v))) ∧ Below w'.heap.size w' w'') :
    Calls Tryz.prog 57 #[.int .i64 (n : Int), .func (.func 59) #[] #[c1, c2]] w fun e w' => (∃ (v : Nat) (sure : Bool), e = .returned (.tuple #[.int .u64 (v : Int), .bool sure]) ∧ v < 2 ^ n ∧ ((sure = true ∧ v = L) ∨ (sure = false ∧ 0 < v ∧ Q v))) ∧ Below w.heap.size w w' := by
  have HCC := hide HC
  have HLL := hide hL
  clear HC hL
  go_enter Tryz.func57, Tryz.ntmps57
  go_wp2
  go_loopw [4, 6] (fun v i wr => ∃ (b V a : Nat), v = .int .u64 (a : Int) ∧ i = .int .i64 ((b : Int) - 1) ∧ a = V * 2 ^ b ∧ b ≤ n ∧ V * 2 ^ b ≤ L ∧ L < (V + 1) * 2 ^ b ∧ Below w.heap.size w wr) (fun _ i _ => (intOf i + 1).toNat)
  case atStart =>
    exact ⟨n, 0, 0, rfl, rfl, by simp, Nat.le_refl _, by omega, by rw [Nat.zero_add, Nat.one_mul]; exact HLL.out, Below.refl _ _⟩
  case round =>
    obtain ⟨b, V, a, rfl, rfl, ha, hb, h1, h2, hbel⟩ := hrel
    have HB := hide hbel
    clear hbel
    have hlt : V * 2 ^ b < 2 ^ n := by have := HLL.out; omega
    by_cases hb0 : b = 0
    · subst hb0
      rw [Nat.pow_zero, Nat.mul_one] at h1 h2 hlt ha
      obtain rfl : a = L := by omega
      have HLT := hide hlt
      have HVA := hide ha
      clear h1 h2 hlt ha
      go_wp2
      go_returns
      exact ⟨⟨a, true, rfl, by have := HLT.out; have := HVA.out; omega, .inl ⟨rfl, rfl⟩⟩, HB.out⟩
    · obtain ⟨d, rfl⟩ : ∃ d, b = d + 1 := ⟨b - 1, by omega⟩
      have ed : (((d + 1 : Nat) : Int) - 1) = (d : Int) := by omega
      rw [ed]
      have hd0 : (0 : Int) ≤ (d : Int) := by omega
      have hd64 : d < 64 := by omega
      have hp : 2 ^ (d + 1) = 2 * 2 ^ d := by rw [Nat.pow_succ]; omega
      have hdp := Nat.two_pow_pos d
      have hn64 : 2 ^ n ≤ 18446744073709551616 := Nat.pow_le_pow_right (n := 2) (by omega) hn
      obtain ⟨U, hU⟩ : ∃ U, V * 2 ^ (d + 1) + 2 ^ d = U := ⟨_, rfl⟩
      have hUn : U < 2 ^ n := by
        have h3 : (V + 1) * 2 ^ (d + 1) ≤ 2 ^ n := by
          have h4 : V < 2 ^ (n - (d + 1)) := by
            refine Nat.lt_of_mul_lt_mul_right (a := 2 ^ (d + 1)) ?_
            rw [← Nat.pow_add, show n - (d + 1) + (d + 1) = n by omega]
            exact hlt
          have h5 := Nat.mul_le_mul_right (2 ^ (d + 1)) (Nat.succ_le_of_lt h4)
          rw [← Nat.pow_add, show n - (d + 1) + (d + 1) = n by omega] at h5
          exact h5
        rw [Nat.add_mul, Nat.one_mul] at h3
        omega
      have hor := or_add V (d + 1) (2 ^ d) U (by omega) (by omega) (by omega) hU.symm
      rw [← ha] at hor
      have rsh := wrap_mul 1 d (2 ^ d) (by rw [Nat.one_mul]; exact Nat.mod_eq_of_lt (by omega))
      have rsh2 : IntKind.u64.wrap ((2 : Int) ^ d) = ((2 ^ d : Nat) : Int) := by
        rw [show ((1 : Nat) : Int) * 2 ^ d = (2 : Int) ^ d by simp] at rsh
        exact rsh
      have hU1 : U = (2 * V + 1) * 2 ^ d := by rw [← hU, hp]; grind
      have hV1 : V * 2 ^ (d + 1) = (2 * V) * 2 ^ d := by rw [hp]; grind
      have hV2 : (V + 1) * 2 ^ (d + 1) = (2 * V + 1 + 1) * 2 ^ d := by rw [hp]; grind
      have F1 := HCC.out U wr (by omega) hUn HB.out
      have HU1 := hide (And.intro hU1 (And.intro hV1 (And.intro hV2 (And.intro ha (And.intro h1 h2)))))
      have HUN := hide hUn
      have hU0 : 0 < U := by omega
      obtain ⟨D, hD⟩ : ∃ D, 2 ^ d = D := ⟨_, rfl⟩
      rw [hD] at hor rsh2 rsh
      have hbn : d ≤ n := by omega
      clear hU1 hV1 hV2 ha h1 h2 hU hUn hp hdp hn64 hlt hb hD hb0 ed
      go_wp2_with fail
      refine F1.mono ?_
      rintro e w3 ⟨⟨s, rfl, hs⟩, hb3⟩
      have HB3 := hide (HB.out.trans (hb3.mono HB.out.size))
      clear hb3 F1
      rcases hs with ⟨rfl, h⟩ | ⟨rfl, h⟩ | ⟨rfl, h⟩
      · have HS := hide h
        clear h
        go_wp2
        go_roundw
        case rel =>
          obtain ⟨q1, q2, q3, q4, q5, q6⟩ := HU1.out
          have q7 := HS.out
          exact ⟨d, 2 * V + 1, U, rfl, rfl, q1, hbn, by omega, by omega, HB3.out⟩
        case measure => simp [intOf]
      · have HS := hide h
        clear h
        go_wp2
        go_roundw
        case rel =>
          obtain ⟨q1, q2, q3, q4, q5, q6⟩ := HU1.out
          have q7 := HS.out
          exact ⟨d, 2 * V, a, rfl, rfl, by omega, hbn, by omega, by omega, HB3.out⟩
        case measure => simp [intOf]
      · have HS := hide h
        clear h
        go_wp2
        go_returns
        exact ⟨⟨U, false, rfl, HUN.out, .inr ⟨rfl, hU0, HS.out⟩⟩, HB3.out⟩

end Go.Proofs.YteecnckfkcmefaaGreatDoor

/- Package roots: rootLength. -/
namespace Go.Proofs.YteecnckfkcmefaaGreatDoor
open Go.RowKit
open Lm
attribute [local go_sem ↓] Go.wp_at_zero Go.wp_at_succ

namespace Lm

/-- How many bits a k-th root has. -/
def rlen (x k : Nat) : Nat := (blen x + k - 1) / k

theorem rlen_two (L k q : Nat) (hk : 1 ≤ k) (hq : L / k = q) : (L % k = 0 → (L + k - 1) / k = q) ∧ (0 < L % k → (L + k - 1) / k = q + 1) := by
  have h := Nat.div_add_mod L k
  rw [hq] at h
  have hm := Nat.mod_lt L hk
  constructor
  · intro h0
    rw [h0] at h
    refine Nat.div_eq_of_lt_le ?_ ?_
    · rw [Nat.mul_comm]; omega
    · rw [Nat.add_mul, Nat.one_mul, Nat.mul_comm q k]; omega
  · intro h0
    refine Nat.div_eq_of_lt_le ?_ ?_
    · rw [Nat.add_mul, Nat.one_mul, Nat.mul_comm q k]; omega
    · rw [Nat.add_mul, Nat.one_mul, Nat.add_mul, Nat.one_mul, Nat.mul_comm q k]; omega

theorem rlen_ge (x k : Nat) (hk : 1 ≤ k) : blen x ≤ rlen x k * k := by
  unfold rlen
  have h := Nat.div_add_mod (blen x + k - 1) k
  have hm := Nat.mod_lt (blen x + k - 1) hk
  rw [Nat.mul_comm] at h
  omega

theorem rlen_le (x k : Nat) (_hk : 1 ≤ k) : rlen x k * k ≤ blen x + k - 1 := Nat.div_mul_le_self _ _

theorem rlen_le_blen (x k : Nat) (hk : 1 ≤ k) : rlen x k ≤ blen x := by
  unfold rlen
  rw [Nat.div_le_iff_le_mul_add_pred hk]
  have : blen x ≤ k * blen x := Nat.le_mul_of_pos_left _ hk
  omega

/-- The root has just so many bits. -/
theorem rootK_lt_pow {x k r : Nat} (hk : 1 ≤ k) (h : IsRootK x k r) : r < 2 ^ rlen x k := by
  refine rootK_lt hk h ?_
  rw [← Nat.pow_mul]
  exact Nat.lt_of_lt_of_le ((blen_le_iff x _).1 (Nat.le_refl _)) (Nat.pow_le_pow_right (by omega) (rlen_ge x k hk))

theorem rootK_ge_pow {x k r : Nat} (hk : 1 ≤ k) (h : IsRootK x k r) (hx : 0 < x) : 2 ^ (rlen x k - 1) ≤ r := by
  refine rootK_le h ?_
  rw [← Nat.pow_mul]
  refine Nat.le_trans (Nat.pow_le_pow_right (by omega) ?_) (blen_pow_le x (by omega))
  have h1 := rlen_le x k hk
  have hb : blen x ≠ 0 := fun h => by have := (blen_zero_iff x).1 h; omega
  rw [Nat.sub_mul, Nat.one_mul]
  omega

end Lm

theorem rootLength_any (vb : Value) (X : List Nat) (k : Nat) (w : World) (hA : Arg w vb X) (hk : 1 ≤ k) (hk2 : k ≤ 9223372036854775807) :
    Calls Tryz.prog 39 #[vb, .int .i64 k] w fun e w' => e = .returned (.int .i64 ((rlen (val X) k : Nat) : Int)) ∧ w' = w := by
  have HL := length_val _ _ w hA
  have hb : blen (val X) ≤ 64 * X.length := (blen_le_iff _ _).2 (by have := val_lt hA.limbs; rw [show (18446744073709551616 : Nat) = 2 ^ 64 from rfl, ← Nat.pow_mul] at this; exact this)
  have hf := hA.few
  obtain ⟨a1, k1, rfl, _, _, _⟩ := hA.form
  unfold rlen
  generalize blen (val X) = L at *
  clear hA
  obtain ⟨q, hq⟩ : ∃ q : Nat, L / k = q := ⟨L / k, rfl⟩
  obtain ⟨m, hm⟩ : ∃ m : Nat, L % k = m := ⟨L % k, rfl⟩
  obtain ⟨R1, R2⟩ := rlen_two L k q hk hq
  have eq : (L : Int).tdiv (k : Int) = (q : Int) := by rw [← hq]; rfl
  have em : (L : Int).tmod (k : Int) = (m : Int) := by rw [← hm]; rfl
  have hqL : q ≤ L := by rw [← hq]; exact Nat.div_le_self _ _
  have k0 : ((k : Int) == 0) = false := by rw [beq_eq_false_iff_ne]; omega
  have k1 : ¬ (k : Int) = 0 := by omega
  have wq : IntKind.i64.wrap (q : Int) = q := by rw [IntKind.wrap_i64]; omega
  have hmk : m < k := by rw [← hm]; exact Nat.mod_lt _ hk
  have wm : IntKind.i64.wrap (m : Int) = m := by rw [IntKind.wrap_i64]; omega
  by_cases h0 : m = 0
  · rw [R1 (by omega)]
    subst h0
    clear R1 R2 hm hq
    go_enter Tryz.func39, Tryz.ntmps39
    go_wp2_with fail
    refine HL.mono ?_
    rintro e wn ⟨rfl, hw⟩; subst hw
    clear HL
    go_wp2
    go_ret
    exact ⟨rfl, rfl⟩
  · rw [R2 (by omega)]
    have i1 : (0 : Int) < (m : Int) := by omega
    obtain ⟨q', eq'⟩ : ∃ q' : Nat, (q : Int) + 1 = (q' : Int) := ⟨q + 1, by omega⟩
    have hqq : q + 1 = q' := by omega
    rw [hqq]
    clear R1 R2 hm hq hqq
    go_enter Tryz.func39, Tryz.ntmps39
    go_wp2_with fail
    refine HL.mono ?_
    rintro e wn ⟨rfl, hw⟩; subst hw
    clear HL
    go_wp2
    go_ret
    exact ⟨rfl, rfl⟩

end Go.Proofs.YteecnckfkcmefaaGreatDoor

/- Package roots: firstGuess, further. -/
namespace Go.Proofs.YteecnckfkcmefaaGreatDoor
open Go.RowKit
open Lm
attribute [local go_sem ↓] Go.wp_at_zero Go.wp_at_succ

theorem tellRoot_any (gk ga v k : Nat) (va : Value) (X : List Nat) (w : World) (hk : w.cell? ⟨gk, 0, none⟩ = some (.int .i64 (k : Int))) (ha : w.cell? ⟨ga, 0, none⟩ = some va) (hX : Arg w va X) (hT : Tab w) (hl : X.length ≤ 17592186044000) (hbx : blen (val X) ≤ 67108864) (hv : 0 < v) (hv2 : v < 18446744073709551616) (hk1 : 1 ≤ k) (hk2 : k ≤ 67108864) :
    Calls Tryz.prog 94 #[.int .u64 (v : Int), .pointer (some ⟨gk, 0, none⟩), .pointer (some ⟨ga, 0, none⟩)] w fun e w' => (∃ s, e = .returned (.int .i64 s) ∧ Side s (v ^ k) (2 * k) (val X)) ∧ Below w.heap.size w w' := by
  have HF := nfrom v w.drew hv2
  have hbv : blen v ≤ 64 := (blen_le_iff v 64).2 hv2
  have hvk : blen v * k ≤ 2305843009213693952 := Nat.le_trans (Nat.mul_le_mul hbv hk2) (by decide)
  have HA := hide hX
  have HT := hide hT
  have hk' : w.drew.cell? ⟨gk, 0, none⟩ = some (.int .i64 (k : Int)) := hk
  have ha' : w.drew.cell? ⟨ga, 0, none⟩ = some va := ha
  have FP := hide (fun (w1 : World) (v1 : Value) (N1 : Nb w1 w.drew.heap.size v1 v) (hb1 : Below w.drew.heap.size w.drew w1) =>
    powerAbout_any v1 v k w1 (N1.base (Nat.zero_le _)) (HT.out.below (below_undrew hb1)) hv (by omega) hk1 (by omega) hvk)
  have FA := hide (fun (w1 w2 : World) (v2 : Value) (hb1 : Below w.drew.heap.size w.drew w1) (N2 : Ab w2 v2 (v ^ k) (2 * k)) (hb2 : Below w1.heap.size w1 w2) =>
    against_any v2 va _ _ X w2 N2 ((HA.out.below (below_undrew hb1)).below hb2) hl (by omega) (pow_len hv hk1 (Nat.le_refl _) hvk))
  clear hX hT
  go_enter Tryz.func94, Tryz.ntmps94
  go_wp2
  go_region_held3 (fun w' => w'.cell? ⟨gk, 0, none⟩ = some (.int .i64 (k : Int)) ∧ w'.cell? ⟨ga, 0, none⟩ = some va) (go_keep) (first
    | (go_at_call 43; refine HF.mono ?_; rintro e w1 ⟨⟨v1, rfl, N1⟩, hb1⟩; have x0 := cell_up4 hb1 hk'; have x1 := cell_up4 hb1 ha')
    | (go_at_call 60; refine (FP.out _ _ N1 hb1).mono ?_; rintro e w2 ⟨⟨v2, rfl, N2⟩, hb2⟩; have y0 := cell_up4 hb2 x0; have y1 := cell_up4 hb2 x1)
    | (go_at_call 61; refine (FA.out _ _ _ hb1 N2 hb2).mono ?_; rintro e w3 ⟨⟨s, rfl, hs⟩, hb3⟩; have z0 := cell_up4 hb3 y0; have z1 := cell_up4 hb3 y1))
  have hb1' := below_undrew hb1
  have HD := hide (And.intro hs ((hb1'.trans (hb2.mono hb1'.size)).trans (hb3.mono (hb1'.trans (hb2.mono hb1'.size)).size)))
  clear hs hb1 hb1' hb2 hb3 N1 N2 x0 x1 y0 y1 z0 z1 FP FA HF
  go_wp2
  go_ret
  exact ⟨⟨s, rfl, HD.out.1⟩, HD.out.2⟩

namespace Lm

/-- What the pieces of a guess are. -/
theorem guess_facts {x k r len n kl : Nat} (hk : 2 ≤ k) (hlen : rlen x k = len) (h64 : 64 < len) (hkl : k < 2 ^ kl) (hkl2 : kl ≤ 27) (hn : n = (len - kl) / 2 - 4) (h : IsRootK x k r) :
    1 ≤ n ∧ n + 2 ≤ len ∧ n * k < blen x ∧ k < blen (x / 2 ^ (n * k)) ∧ blen (x / 2 ^ (n * k)) < blen x ∧ 2 * k ≤ r / 2 ^ n ∧ 2 ^ n ≤ r := by
  have hx0 : x ≠ 0 := by
    rintro rfl
    have := rlen_le_blen 0 k (by omega)
    rw [show blen 0 = 0 from (blen_zero_iff 0).2 rfl] at this
    omega
  have h1 : 1 ≤ n := by omega
  have h2 : n + 2 ≤ len := by omega
  have e1 := rlen_le x k (by omega)
  rw [hlen] at e1
  have e2 : (n + 2) * k ≤ len * k := Nat.mul_le_mul_right _ h2
  rw [Nat.add_mul] at e2
  have h3 : n * k + k < blen x := by omega
  have hp := blen_pow_le x hx0
  have h4 : k < blen (x / 2 ^ (n * k)) := by
    refine Nat.lt_of_not_le fun hle => ?_
    have q1 := (blen_le_iff _ _).1 hle
    rw [Nat.div_lt_iff_lt_mul (Nat.two_pow_pos _), ← Nat.pow_add] at q1
    have q2 : 2 ^ (k + n * k) ≤ 2 ^ (blen x - 1) := Nat.pow_le_pow_right (by omega) (by omega)
    omega
  have hnk : 1 ≤ n * k := Nat.mul_pos h1 (by omega)
  have h5 : blen (x / 2 ^ (n * k)) < blen x := by
    refine Nat.lt_of_le_of_lt ((blen_le_iff _ (blen x - n * k)).2 ?_) (show blen x - n * k < blen x by omega)
    rw [Nat.div_lt_iff_lt_mul (Nat.two_pow_pos _), ← Nat.pow_add, show blen x - n * k + n * k = blen x by omega]
    exact (blen_le_iff x _).1 (Nat.le_refl _)
  have hr := rootK_ge_pow (by omega) h (by omega)
  rw [hlen] at hr
  have h6 : 2 * k ≤ r / 2 ^ n := by
    rw [Nat.le_div_iff_mul_le (Nat.two_pow_pos n)]
    refine Nat.le_trans ?_ hr
    have q1 : 2 * k * 2 ^ n ≤ 2 ^ (kl + 1) * 2 ^ n := Nat.mul_le_mul_right _ (by rw [Nat.pow_succ]; omega)
    rw [← Nat.pow_add] at q1
    exact Nat.le_trans q1 (Nat.pow_le_pow_right (by omega) (by omega))
  refine ⟨h1, h2, by omega, h4, h5, h6, ?_⟩
  exact Nat.le_trans (Nat.pow_le_pow_right (by omega) (by omega)) hr

end Lm

/-- What firstGuess answers: the root or more, but not far. -/
def RGuess (w : World) (x k r : Nat) (e : Ending) (w' : World) : Prop := (∃ v g, e = .returned v ∧ Nb w' w.heap.size v g ∧ r ≤ g ∧ g ≤ 4 * 2 ^ rlen x k) ∧ Below w.heap.size w w'

def FurOk (N : Nat) : Prop := ∀ (X : List Nat) (va : Value) (w : World) (k r : Nat), blen (val X) < N → Arg w va X → Tab w → X.length ≤ 17592186044000 → blen (val X) ≤ 67108864 → 2 ≤ k → k < blen (val X) → IsRootK (val X) k r →
    Calls Tryz.prog 55 #[va, .int .i64 (k : Int)] w (NbDone2 w r (val X - r ^ k))

set_option maxRecDepth 20000 in
set_option maxHeartbeats 1000000 in
theorem guess_small (X : List Nat) (va : Value) (w : World) (k r : Nat) (hA : Arg w va X) (hT : Tab w) (hl : X.length ≤ 17592186044000) (hbx : blen (val X) ≤ 67108864) (hk1 : 2 ≤ k) (hk2 : k < blen (val X)) (hr : IsRootK (val X) k r) (h64 : rlen (val X) k ≤ 64) :
    Calls Tryz.prog 80 #[va, .int .i64 (k : Int)] w (RGuess w (val X) k r) := by
  obtain ⟨av, cv, rfl, _, _, _⟩ := hA.form
  obtain ⟨w0, hw0⟩ : ∃ w0, w0 = (w.alloc (.cells #[.slice av X.length cv] 31)).alloc (.cells #[.int .i64 (k : Int)] 3) := ⟨_, rfl⟩
  have hba : Below w.heap.size w (w.alloc (.cells #[.slice av X.length cv] 31)) := below_one _ _
  have hb0 : Below w.heap.size w w0 := by rw [hw0]; exact hba.alloc hba.size _
  have hs1 : (w.alloc (.cells #[.slice av X.length cv] 31)).heap.size = w.heap.size + 1 := World.size_alloc _ _
  have ca : w0.cell? ⟨w.heap.size, 0, none⟩ = some (.slice av X.length cv) := by
    have hb : Below (w.alloc (.cells #[.slice av X.length cv] 31)).heap.size (w.alloc (.cells #[.slice av X.length cv] 31)) w0 := by rw [hw0]; exact below_one _ _
    have h : w0.heap[w.heap.size]? = some (.cells #[.slice av X.length cv] 31) := by rw [hb.block w.heap.size (by omega)]; exact heap_alloc_new ..
    simp [World.cell?, h]
  have ck : w0.cell? ⟨w.heap.size + 1, 0, none⟩ = some (.int .i64 (k : Int)) := by
    have h := heap_alloc_new (w.alloc (.cells #[.slice av X.length cv] 31)) (.cells #[.int .i64 (k : Int)] 3)
    rw [hs1, ← hw0] at h
    simp [World.cell?, h]
  have HW0 := hide hw0
  have HB0 := hide hb0
  have HA := hide (hA.below hb0)
  have HT := hide (hT.below hb0)
  have HAW := hide hA
  have HTW := hide hT
  have HL := rootLength_any _ X k w0 (hA.below hb0) (by omega) (by omega)
  clear hw0 hba hb0 hs1 hA hT
  unfold RGuess
  obtain ⟨n, hn⟩ : ∃ n, rlen (val X) k = n := ⟨_, rfl⟩
  rw [hn] at HL h64 ⊢
  have hrn := rootK_lt_pow (by omega) hr
  rw [hn] at hrn
  have hn64 : 2 ^ n ≤ 18446744073709551616 := Nat.pow_le_pow_right (n := 2) (by omega) h64
  have FG := greatest_root (.pointer (some ⟨w.heap.size + 1, 0, none⟩)) (.pointer (some ⟨w.heap.size, 0, none⟩)) n r (fun v => r ≤ v) w0 h64 hrn (by
    intro v w' hv1 hv2 hb
    refine (tellRoot_any _ _ v k _ X w' (cell_up4 hb ck) (cell_up4 hb ca) (HA.out.below hb) (HT.out.below hb) hl hbx hv1 (by omega) (by omega) (by omega)).mono ?_
    rintro e w2 ⟨⟨s, rfl, hs⟩, hb2⟩
    refine ⟨⟨s, rfl, ?_⟩, hb2⟩
    rcases hs with ⟨h1, h2⟩ | ⟨h1, h2⟩ | ⟨h1, l, h, e', h2, h3⟩
    · exact .inl ⟨h1, rootK_le hr (Nat.le_of_lt h2)⟩
    · exact .inr (.inl ⟨h1, rootK_lt (by omega) hr h2⟩)
    · refine .inr (.inr ⟨h1, ?_⟩)
      have h4 := near_lt h2 h3 (show v < 2 ^ 64 by omega) (by omega) (Nat.le_refl _) (Nat.le_trans (show k ≤ 67108864 by omega) (by decide))
      exact Nat.le_of_lt_succ (rootK_lt (by omega) hr h4))
  have i1 : (n : Int) ≤ 64 := by omega
  have HX := hide (And.intro hn64 hrn)
  clear HA HT HAW HTW hr hbx hl hk2 hn hn64 hrn
  go_enter Tryz.func80, Tryz.ntmps80
  go_wp2_with fail
  rw [← HW0.out]
  refine HL.mono ?_
  rintro e wn ⟨rfl, hw⟩; rw [hw]; clear hw wn HL
  go_wp2_with fail
  refine FG.mono ?_
  rintro e w1 ⟨⟨v, sure, rfl, hv, hvs⟩, hb⟩
  have HG : Hid (r ≤ v ∧ v ≤ 4 * 2 ^ n) := hide ⟨by rcases hvs with ⟨_, h⟩ | ⟨_, _, h⟩ <;> omega, by omega⟩
  have HB1 := hid_below HB0 hb
  have HF := nfrom v w1 (by have := HX.out.1; omega)
  clear FG hb hv hvs
  go_wp2_with fail
  refine HF.mono ?_
  rintro e w2 ⟨⟨v2, rfl, N2⟩, hb⟩
  have HD := hide (And.intro (N2.base HB1.out.size) (hid_below HB1 hb).out)
  clear HF N2 hb
  go_wp2
  go_ret
  exact ⟨⟨_, v, rfl, HD.out.1, HG.out.1, HG.out.2⟩, HD.out.2⟩

end Go.Proofs.YteecnckfkcmefaaGreatDoor

/- Package roots: firstGuess of great numbers, further. -/
namespace Go.Proofs.YteecnckfkcmefaaGreatDoor
open Go.RowKit
open Lm
attribute [local go_sem ↓] Go.wp_at_zero Go.wp_at_succ

theorem Nb.drew {w : World} {base : Nat} {v : Value} {x : Nat} (h : Nb w base v x) : Nb w.drew base v x := h.below (Below.refl _ _).drew

theorem npower {w : World} {b1 : Nat} {v1 : Value} {x n : Nat} (h1 : Nb w b1 v1 x) (hT : Tab w) (l1 : blen x ≤ 1125899906816000) (hn : n ≤ 4611686018427387904) (hp : blen (x ^ n) ≤ 1125899906816000) : Calls Tryz.prog 63 #[v1, .int .i64 (n : Int)] w (NbDone w (x ^ n)) := by
  obtain ⟨r1, a1, rfl, _, n1⟩ := h1.arg l1
  exact rpower_any n n (Nat.le_refl _) (by omega) r1 v1 w a1 hT n1 hp

theorem nquo {w : World} {b1 b2 : Nat} {v1 v2 : Value} {x y : Nat} (h1 : Nb w b1 v1 x) (h2 : Nb w b2 v2 y) (hT : Tab w) (l1 : blen x ≤ 1125899906816000) (l2 : blen y ≤ 1125899906816000) (hy : 0 < y) (hq : blen (x / y) ≤ 67108864) :
    Calls Tryz.prog 89 #[v1, v2] w fun e w' => (∃ v, e = .returned (.tuple #[v, .int .i64 0]) ∧ Nb w' w.heap.size v (x / y)) ∧ Below w.heap.size w w' := by
  obtain ⟨r1, a1, rfl, _, n1⟩ := h1.arg l1
  obtain ⟨r2, a2, rfl, _, n2⟩ := h2.arg l2
  refine (dQuo_any v1 v2 r1 r2 w a1 a2 hT (by omega) (by omega) (by omega)).mono ?_
  rintro e w' ⟨hb, v, c, rs, rfl, ha, hres⟩
  rcases hres with ⟨rfl, q1, q2, _⟩ | ⟨_, _, q3⟩
  · exact ⟨⟨v, rfl, rs, ha, q1, q2⟩, hb⟩
  · omega

namespace Lm

/-- How long the pieces of a guess are. -/
theorem guess_sizes {x k r len n : Nat} (hk : 2 ≤ k) (hlen : rlen x k = len) (hbx : blen x ≤ 67108864) (hkx : k ≤ 67108864) (hn : n + 2 ≤ len) (h : IsRootK x k r) (hh : 2 * k ≤ r / 2 ^ n) (hnr : 2 ^ n ≤ r) :
    blen (x / 2 ^ (n * k) - (r / 2 ^ n) ^ k) ≤ 67108864 ∧ blen ((r / 2 ^ n) ^ (k - 1)) ≤ 67108864 ∧ blen (r / 2 ^ n) ≤ 67108864 ∧ blen ((r / 2 ^ n) ^ (k - 1) * k) ≤ 67108891 ∧
    blen (x / 2 ^ (n * (k - 1)) % 2 ^ n + 2 ^ n * (x / 2 ^ (n * k) - (r / 2 ^ n) ^ k)) ≤ 134217728 ∧ 0 < (r / 2 ^ n) ^ (k - 1) * k ∧
    blen ((x / 2 ^ (n * (k - 1)) % 2 ^ n + 2 ^ n * (x / 2 ^ (n * k) - (r / 2 ^ n) ^ k)) / ((r / 2 ^ n) ^ (k - 1) * k)) ≤ 67108864 ∧ blen (2 ^ n * (r / 2 ^ n)) ≤ 67108864 ∧
    r ≤ 2 ^ n * (r / 2 ^ n) + (x / 2 ^ (n * (k - 1)) % 2 ^ n + 2 ^ n * (x / 2 ^ (n * k) - (r / 2 ^ n) ^ k)) / ((r / 2 ^ n) ^ (k - 1) * k) ∧
    2 ^ n * (r / 2 ^ n) + (x / 2 ^ (n * (k - 1)) % 2 ^ n + 2 ^ n * (x / 2 ^ (n * k) - (r / 2 ^ n) ^ k)) / ((r / 2 ^ n) ^ (k - 1) * k) ≤ 4 * 2 ^ len := by
  have g1 := guess_ge (n := n) (by omega) h (by omega)
  have g2 := step_le (n := n) (by omega) h hh
  obtain ⟨a1, _⟩ := rootK_high (n := n) (by omega) h
  have hlb := rlen_le_blen x k (by omega)
  rw [hlen] at hlb
  have hrl := rootK_lt_pow (by omega) h
  rw [hlen] at hrl
  have hmod := Nat.mod_lt (x / 2 ^ (n * (k - 1))) (Nat.two_pow_pos n)
  have hq0 : 0 < r / 2 ^ n := by omega
  have hqr := Nat.mul_div_le r (2 ^ n)
  have hpk : (r / 2 ^ n) ^ (k - 1) ≤ (r / 2 ^ n) ^ k := Nat.pow_le_pow_right hq0 (by omega)
  have hAx : x / 2 ^ (n * k) ≤ x := Nat.div_le_self _ _
  have hpos : 0 < (r / 2 ^ n) ^ (k - 1) * k := Nat.mul_pos (Nat.pow_pos hq0) (by omega)
  have hqx : r / 2 ^ n ≤ (r / 2 ^ n) ^ k := Nat.le_self_pow (by omega) _
  generalize hA : x / 2 ^ (n * k) = A at *
  generalize hy : x / 2 ^ (n * (k - 1)) % 2 ^ n = y at *
  generalize hq : r / 2 ^ n = q at *
  have s1 : blen (A - q ^ k) ≤ 67108864 := Nat.le_trans (blen_mono (show A - q ^ k ≤ x by omega)) hbx
  have s2 : blen (q ^ (k - 1)) ≤ 67108864 := Nat.le_trans (blen_mono (show q ^ (k - 1) ≤ x by omega)) hbx
  have s3 : blen q ≤ 67108864 := Nat.le_trans (blen_mono (show q ≤ x by omega)) hbx
  have s4 : blen (q ^ (k - 1) * k) ≤ 67108891 := by
    have b1 := (blen_le_iff _ _).1 s2
    have b2 : k < 2 ^ 27 := by omega
    obtain ⟨K, hK⟩ : ∃ K, 67108864 = K := ⟨_, rfl⟩
    rw [hK] at b1
    have := (blen_le_iff (q ^ (k - 1) * k) (K + 27)).2 (by rw [Nat.pow_add]; exact Nat.mul_lt_mul_of_lt_of_lt b1 b2)
    omega
  have s5 : blen (y + 2 ^ n * (A - q ^ k)) ≤ 134217728 := by
    have b1 := (blen_le_iff _ _).1 s1
    obtain ⟨K, hK⟩ : ∃ K, 67108864 = K := ⟨_, rfl⟩
    rw [hK] at b1 hbx
    have := (blen_le_iff (y + 2 ^ n * (A - q ^ k)) (n + K)).2 (by
      rw [Nat.pow_add]
      have := Nat.mul_le_mul_left (2 ^ n) (Nat.succ_le_of_lt b1)
      rw [Nat.mul_succ] at this
      omega)
    omega
  have hn2 : 2 ^ (n + 2) ≤ 2 ^ len := Nat.pow_le_pow_right (by omega) hn
  rw [Nat.pow_add] at hn2
  refine ⟨s1, s2, s3, s4, s5, hpos, ?_, ?_, g1, by omega⟩
  · refine Nat.le_trans ((blen_le_iff _ (n + 2)).2 ?_) (by omega)
    rw [Nat.pow_add]
    have := Nat.two_pow_pos n
    omega
  · refine Nat.le_trans ((blen_le_iff _ len).2 ?_) (by omega)
    omega

end Lm

set_option maxRecDepth 20000 in
set_option maxHeartbeats 4000000 in
theorem guess_big (X : List Nat) (va : Value) (w : World) (k r : Nat) (IH : FurOk (blen (val X))) (hA : Arg w va X) (hT : Tab w) (hl : X.length ≤ 17592186044000) (hbx : blen (val X) ≤ 67108864) (hk1 : 2 ≤ k) (hk2 : k < blen (val X)) (hr : IsRootK (val X) k r) (h64 : 64 < rlen (val X) k) :
    Calls Tryz.prog 80 #[va, .int .i64 (k : Int)] w (RGuess w (val X) k r) := by
  obtain ⟨av, cv, rfl, _, _, _⟩ := hA.form
  obtain ⟨w0, hw0⟩ : ∃ w0, w0 = (w.alloc (.cells #[.slice av X.length cv] 31)).alloc (.cells #[.int .i64 (k : Int)] 3) := ⟨_, rfl⟩
  have hba : Below w.heap.size w (w.alloc (.cells #[.slice av X.length cv] 31)) := below_one _ _
  have hb0 : Below w.heap.size w w0 := by rw [hw0]; exact hba.alloc hba.size _
  have hs1 : (w.alloc (.cells #[.slice av X.length cv] 31)).heap.size = w.heap.size + 1 := World.size_alloc _ _
  have ca : w0.cell? ⟨w.heap.size, 0, none⟩ = some (.slice av X.length cv) := by
    have hb : Below (w.alloc (.cells #[.slice av X.length cv] 31)).heap.size (w.alloc (.cells #[.slice av X.length cv] 31)) w0 := by rw [hw0]; exact below_one _ _
    have h : w0.heap[w.heap.size]? = some (.cells #[.slice av X.length cv] 31) := by rw [hb.block w.heap.size (by omega)]; exact heap_alloc_new ..
    simp [World.cell?, h]
  have ck : w0.cell? ⟨w.heap.size + 1, 0, none⟩ = some (.int .i64 (k : Int)) := by
    have h := heap_alloc_new (w.alloc (.cells #[.slice av X.length cv] 31)) (.cells #[.int .i64 (k : Int)] 3)
    rw [hs1, ← hw0] at h
    simp [World.cell?, h]
  have HW0 := hide hw0
  have HB0 := hide hb0
  have HA := hide (hA.below hb0)
  have HT := hide (hT.below hb0)
  have HAW := hide hA
  have HTW := hide hT
  have HL := rootLength_any _ X k w0 (hA.below hb0) (by omega) (by omega)
  clear hw0 hba hb0 hs1 hA hT
  unfold RGuess
  have HLN := fun W => Tryz.bits_Len (k : Int) W (by omega) (by omega)
  rw [Int.toNat_natCast] at HLN
  have wk : IntKind.u64.wrap (k : Int) = (k : Int) := by rw [IntKind.wrap_u64]; omega
  obtain ⟨kl, hkl⟩ : ∃ kl, Lib.bitLen k = kl := ⟨_, rfl⟩
  have hk3 : k < 2 ^ kl := by
    obtain ⟨_, _, h3⟩ := Lib.bitLenAux_bounds 64 k (by omega) (by omega)
    rw [← hkl]; exact h3
  have hkl2 : kl ≤ 27 := by rw [← hkl]; exact Lib.bitLen_le k 27 (by omega) (by omega)
  rw [hkl] at HLN
  obtain ⟨len, hlen⟩ : ∃ len, rlen (val X) k = len := ⟨_, rfl⟩
  rw [hlen] at HL h64 ⊢
  have hlenb : len ≤ 67108864 := by rw [← hlen]; exact Nat.le_trans (rlen_le_blen _ _ (by omega)) hbx
  obtain ⟨n, hn⟩ : ∃ n, n = (len - kl) / 2 - 4 := ⟨_, rfl⟩
  obtain ⟨f1, f2, f3, f4, f5, f6, f7⟩ := guess_facts hk1 hlen h64 hk3 hkl2 hn hr
  obtain ⟨s1, s2, s3, s4, s5, s6, s7, s8, s9, s10⟩ := guess_sizes hk1 hlen hbx (by omega) f2 hr f6 f7
  have hrh := rootK_high (n := n) (by omega) hr
  obtain ⟨d, ed, hd⟩ : ∃ d : Nat, (len : Int) - (kl : Int) = (d : Int) ∧ len - kl = d := ⟨len - kl, by omega, rfl⟩
  obtain ⟨d2, ed2, hd2⟩ : ∃ d2 : Nat, (d : Int) / 2 = (d2 : Int) ∧ d / 2 = d2 := ⟨d / 2, by omega, rfl⟩
  have en : (d2 : Int) - 4 = (n : Int) := by omega
  obtain ⟨nk, hnk⟩ : ∃ nk, n * k = nk := ⟨_, rfl⟩
  have enk : (n : Int) * (k : Int) = (nk : Int) := by rw [← hnk]; exact (Int.natCast_mul n k).symm
  obtain ⟨k1, hk1'⟩ : ∃ k1, k - 1 = k1 := ⟨_, rfl⟩
  have ek1 : (k : Int) - 1 = (k1 : Int) := by omega
  obtain ⟨nm, hnm⟩ : ∃ nm, n * k1 = nm := ⟨_, rfl⟩
  have enm : (n : Int) * (k1 : Int) = (nm : Int) := by rw [← hnm]; exact (Int.natCast_mul n k1).symm
  have hnm2 : nm ≤ nk := by rw [← hnm, ← hnk]; exact Nat.mul_le_mul_left _ (by omega)
  rw [hk1', hnk, hnm] at s5 s7 s9 s10
  rw [hnk] at f3 f4 f5 hrh s1
  rw [hk1'] at s2 s4 s6
  have hyl : val X / 2 ^ nm % 2 ^ n < 2 ^ n := Nat.mod_lt _ (Nat.two_pow_pos n)
  obtain ⟨q, hq⟩ : ∃ q, r / 2 ^ n = q := ⟨_, rfl⟩
  rw [hq] at s1 s2 s3 s4 s5 s6 s7 s8 s9 s10 hrh
  obtain ⟨y, hy⟩ : ∃ y, val X / 2 ^ nm % 2 ^ n = y := ⟨_, rfl⟩
  rw [hy] at s5 s7 s9 s10 hyl
  obtain ⟨lf, hlf⟩ : ∃ lf, val X / 2 ^ nk - q ^ k = lf := ⟨_, rfl⟩
  rw [hlf] at s1 s5 s7 s9 s10
  have wnk : IntKind.i64.wrap (nk : Int) = nk := by rw [IntKind.wrap_i64]; omega
  have wnm : IntKind.i64.wrap (nm : Int) = nm := by rw [IntKind.wrap_i64]; omega
  have wk1 : IntKind.i64.wrap (k1 : Int) = k1 := by rw [IntKind.wrap_i64]; omega
  have wnk' : IntKind.i64.wrap ((n : Int) * (k : Int)) = nk := by rw [enk]; exact wnk
  have wk1' : IntKind.i64.wrap ((k : Int) - 1) = k1 := by rw [ek1]; exact wk1
  have ca' : w0.drew.cell? ⟨w.heap.size, 0, none⟩ = some (.slice av X.length cv) := ca
  have ck' : w0.drew.cell? ⟨w.heap.size + 1, 0, none⟩ = some (.int .i64 (k : Int)) := ck
  have D1 := rdown_any _ X nk w0.drew HA.out.drew (by omega) (by omega)
  have hTd : Tab w0.drew := HT.out.below (Below.refl _ _).drew
  have FF := hide (fun (w1 : World) (v1 : Value) (r1 : List Nat) (d1 : Ans w1 w0.drew.heap.size v1 r1) (p1 : val r1 = val X / 2 ^ nk) (t1 : tr r1 = r1) (hb1 : Below w0.drew.heap.size w0.drew w1) =>
    show Calls Tryz.prog 55 #[v1, .int .i64 (k : Int)] w1 (NbDone2 w1 q lf) by
      have l1 : r1.length ≤ 1048576 := few_of t1 p1 (by omega)
      have h := IH r1 v1 w1 k q (by rw [p1]; exact f5) (d1.arg (by omega)) (hTd.below hb1) (by omega) (by rw [p1]; omega) hk1 (by rw [p1]; exact f4) (by rw [p1]; exact hrh)
      rw [p1, hlf] at h
      exact h)
  have i1 : ¬ (len : Int) ≤ 64 := by omega
  have HSZ := hide (And.intro s1 (And.intro s2 (And.intro s3 (And.intro s4 (And.intro s5 (And.intro s6 (And.intro s7 (And.intro s8 (And.intro s9 (And.intro s10 (And.intro hyl hy)))))))))))
  have HBB := hide (And.intro hbx hl)
  have hnb : n ≤ 67108864 := by omega
  have hkb : k ≤ 67108864 := by omega
  have hkn1 : k1 ≤ 67108864 := by omega
  have hnmb : nm ≤ 67108864 := by omega
  have HB := HB0
  clear IH f1 f2 f3 f4 f5 f6 f7 s1 s2 s3 s4 s5 s6 s7 s8 s9 s10 hrh hkl hk3 hlen hn hd hd2 hnk hk1' hnm hnm2 hq hy hlf hyl hr hbx hk2 hTd HB0
  go_enter Tryz.func80, Tryz.ntmps80
  go_wp2_with fail
  rw [← HW0.out]
  refine HL.mono ?_
  rintro e wn ⟨rfl, hw⟩; rw [hw]; clear hw wn HL
  go_wp2_with fail
  refine (HLN _).mono ?_
  rintro e wn' ⟨rfl, hw⟩; rw [hw]; clear hw wn' HLN
  go_wp2
  go_region_held3 (fun w' => w'.cell? ⟨w.heap.size, 0, none⟩ = some (.slice av X.length cv) ∧ w'.cell? ⟨w.heap.size + 1, 0, none⟩ = some (.int .i64 (k : Int))) (go_keep) (first
    | (go_at_call 48; refine D1.mono ?_; rintro e w1 ⟨⟨v1, r1, rfl, d1, p1, t1⟩, hb1⟩; have ca1 := cell_up4 hb1 ca'; have ck1 := cell_up4 hb1 ck')
    | (go_at_call 55; refine (FF.out _ _ _ d1 p1 t1 hb1).mono ?_; rintro e w2 ⟨⟨vh, vf, rfl, Nh, Nf⟩, hb2⟩; have ca2 := cell_up4 hb2 ca1; have ck2 := cell_up4 hb2 ck1))
  have hb1' := below_undrew hb1
  replace HB := hid_below (hid_below HB hb1') hb2
  replace Nh := Nh.base (Nat.zero_le _); replace Nf := Nf.base (Nat.zero_le _)
  clear D1 FF d1 p1 t1 hb1 hb1' hb2 ca1 ck1 ca ck ca' ck'
  obtain ⟨s1, s2, s3, s4, s5, s6, s7, s8, s9, s10, hyl, hy⟩ := HSZ.out
  have F1 := (rbits_any _ X nm n w2 (HAW.out.below HB.out) (by have := HBB.out.2; omega) (by omega) (by omega)).mono fun _ _ h => h.nb
  rw [hy] at F1
  go_wp2_with fail
  refine F1.mono ?_
  rintro e w3 ⟨⟨vy, rfl, Ny⟩, hb⟩
  replace Ny := Ny.base HB.out.size
  replace HB := hid_below HB hb
  replace Nh := Nh.below hb; replace Nf := Nf.below hb; have ck3 := cell_up4 hb ck2
  clear hb F1 ca2 ck2
  have F1 := njoin (n := n) Nf Ny (by omega) (by omega) hyl
  clear Nf Ny
  go_wp2_with fail
  refine F1.mono ?_
  rintro e w4 ⟨⟨vd, rfl, Nd⟩, hb⟩
  replace Nd := Nd.base HB.out.size
  replace HB := hid_below HB hb
  replace Nh := Nh.below hb; have ck4 := cell_up4 hb ck3
  clear hb F1 ck3
  have ck4' : w4.drew.cell? ⟨w.heap.size + 1, 0, none⟩ = some (.int .i64 (k : Int)) := ck4
  have hT4 : Tab w4.drew := (HTW.out.below HB.out).below (Below.refl _ _).drew
  have FP := npower (n := k1) Nh.drew hT4 (by omega) (by omega) (by omega)
  have FPR := hide (fun (w5 : World) (v5 : Value) (w6 : World) (v6 : Value) (N5 : Nb w5 w4.drew.heap.size v5 (q ^ k1)) (hb5 : Below w4.drew.heap.size w4.drew w5) (N6 : Nb w6 w5.heap.size v6 k) (hb6 : Below w5.heap.size w5 w6) =>
    show Calls Tryz.prog 72 #[v5, v6] w6 (NbDone w6 (q ^ k1 * k)) by
      have bk : blen k ≤ 64 := (blen_le_iff k 64).2 (by omega)
      exact nprod (N5.below hb6) N6 ((hT4.below hb5).below hb6) (by omega) (by omega))
  have HSZ2 := hide (And.intro s3 (And.intro s4 (And.intro s5 (And.intro s6 (And.intro s7 (And.intro s8 (And.intro s9 s10)))))))
  clear s1 s2 s3 s4 s5 s6 s7 s8 s9 s10 hyl hy HSZ hT4
  go_wp2
  go_region_held3 (fun w' => w'.cell? ⟨w.heap.size + 1, 0, none⟩ = some (.int .i64 (k : Int))) (go_keep) (first
    | (go_at_call 63; refine FP.mono ?_; rintro e w5 ⟨⟨v5, rfl, N5⟩, hb5⟩; have ck5 := cell_up4 hb5 ck4')
    | (go_at_call 43; refine (nfrom k w5 (by omega)).mono ?_; rintro e w6 ⟨⟨v6, rfl, N6⟩, hb6⟩; have ck6 := cell_up4 hb6 ck5)
    | (go_at_call 72; refine (FPR.out _ _ _ _ N5 hb5 N6 hb6).mono ?_; rintro e w7 ⟨⟨v7, rfl, N7⟩, hb7⟩; have ck7 := cell_up4 hb7 ck6))
  have hb5' := below_undrew hb5
  replace Nh := ((Nh.below hb5').below hb6).below hb7
  replace Nd := ((Nd.below hb5').below hb6).below hb7
  replace HB := hid_below (hid_below (hid_below HB hb5') hb6) hb7
  replace N7 := N7.base (Nat.zero_le _)
  clear FP FPR N5 N6 hb5 hb5' hb6 hb7 ck4 ck4' ck5 ck6 ck7
  obtain ⟨s3, s4, s5, s6, s7, s8, s9, s10⟩ := HSZ2.out
  have F1 := nquo Nd N7 (HTW.out.below HB.out) (by omega) (by omega) s6 s7
  clear Nd N7
  go_wp2_with fail
  refine F1.mono ?_
  rintro e w8 ⟨⟨vs, rfl, Ns⟩, hb⟩
  replace Ns := Ns.base HB.out.size
  replace HB := hid_below HB hb
  replace Nh := Nh.below hb
  clear hb F1
  have F1 := nup (n := n) Nh (by omega) (by omega)
  clear Nh
  go_wp2_with fail
  refine F1.mono ?_
  rintro e w9 ⟨⟨vu, rfl, Nu⟩, hb⟩
  replace Nu := Nu.base HB.out.size
  replace HB := hid_below HB hb
  replace Ns := Ns.below hb
  clear hb F1
  have F1 := nsum Nu Ns (by omega) (by omega)
  clear Nu Ns
  go_wp2_with fail
  refine F1.mono ?_
  rintro e w10 ⟨⟨vg, rfl, Ng⟩, hb⟩
  replace Ng := Ng.base HB.out.size
  replace HB := hid_below HB hb
  clear hb F1
  have HD := hide Ng
  have HE := hide (And.intro s9 s10)
  clear Ng s3 s4 s5 s6 s7 s8 s9 s10
  go_wp2
  go_ret
  exact ⟨⟨_, _, rfl, HD.out, HE.out.1, HE.out.2⟩, HB.out⟩

/-- The number that a slice of limbs holds. -/
def rdV (w : World) : Value → Nat
  | .slice (some a) n _ => val ((List.range n).map fun k => match w.cell? ⟨a.block, a.off + k, none⟩ with
    | some v => (intOf v).toNat
    | none => 0)
  | _ => 0

theorem rdV_arg {w : World} {v : Value} {zs : List Nat} (h : Arg w v zs) : rdV w v = val zs := by
  obtain ⟨ao, cap, rfl, _, _, hl⟩ := h.form
  rcases hl with rfl | ⟨b, off, rfl, hc⟩
  · cases ao with
    | none => rfl
    | some a => rfl
  · show val _ = val zs
    congr 1
    apply List.ext_getElem
    · simp
    · intro i h1 h2
      simp only [List.getElem_map, List.getElem_range]
      rw [hc i h2]
      simp [intOf, List.getD, h2]

namespace Lm

/-- A guess's power is not too long. -/
theorem guess_pow {x k g : Nat} (hk : 1 ≤ k) (hbx : blen x ≤ 67108864) (hkx : k ≤ 67108864) (hg : g ≤ 4 * 2 ^ rlen x k) : blen (g ^ k) ≤ 402653184 ∧ blen g ≤ 67108868 := by
  have h1 := rlen_le x k hk
  have h2 := rlen_le_blen x k hk
  have h3 : g < 2 ^ (rlen x k + 3) := by
    rw [Nat.pow_add]
    have := Nat.two_pow_pos (rlen x k)
    omega
  have h4 : g ^ k < 2 ^ ((rlen x k + 3) * k) := by rw [Nat.pow_mul]; exact Nat.pow_lt_pow_left h3 (by omega)
  have h5 := (blen_le_iff _ _).2 h4
  rw [Nat.add_mul] at h5
  exact ⟨by omega, Nat.le_trans ((blen_le_iff _ _).2 h3) (by omega)⟩

end Lm

set_option maxRecDepth 20000 in
set_option maxHeartbeats 2000000 in
theorem further_of (X : List Nat) (va : Value) (w : World) (k r : Nat) (HG : Calls Tryz.prog 80 #[va, .int .i64 (k : Int)] w (RGuess w (val X) k r)) (hA : Arg w va X) (hT : Tab w) (hl : X.length ≤ 17592186044000) (hbx : blen (val X) ≤ 67108864) (hk1 : 2 ≤ k) (hk2 : k < blen (val X)) (hr : IsRootK (val X) k r) :
    Calls Tryz.prog 55 #[va, .int .i64 (k : Int)] w (NbDone2 w r (val X - r ^ k)) := by
  have HA := hide hA
  have HT := hide hT
  have HR := hide hr
  have HX := hide hbx
  have hkb : k ≤ 67108864 := by omega
  obtain ⟨rr, hrr⟩ : ∃ rr, rr = val X - r ^ k := ⟨_, rfl⟩
  rw [← hrr]
  have HRR := hide hrr
  clear hA hT hr hbx hk2 hrr
  go_enter Tryz.func55, Tryz.ntmps55
  go_wp2_with fail
  refine HG.mono ?_
  rintro e w1 ⟨⟨v1, g1, rfl, N1, hg1, hg2⟩, hb1⟩
  have HS := hide (And.intro N1 (And.intro hg1 (And.intro hg2 hb1)))
  clear N1 hg1 hg2 hb1 HG
  go_wp2
  go_loopw [6] (fun v wr => ∃ g u, u = v ∧ Nb wr w.heap.size u g ∧ r ≤ g ∧ g ≤ 4 * 2 ^ rlen (val X) k ∧ Below w.heap.size w wr) (fun v wr => rdV wr v)
  case atStart => exact ⟨g1, _, rfl, HS.out.1, HS.out.2.1, HS.out.2.2.1, HS.out.2.2.2⟩
  case round =>
    obtain ⟨g, u, hu, hN, hg1, hg2, hb⟩ := hrel
    subst hu
    obtain ⟨p1, p2⟩ := guess_pow (by omega) HX.out hkb hg2
    have HM : Hid (rdV wr u = g) := by
      obtain ⟨rs, a, e, _, _⟩ := hN.arg (by omega)
      exact hide (by rw [rdV_arg a]; exact e)
    have HB := hide hb
    have HGG := hide (And.intro hg1 hg2)
    have HNG := hide hN
    have F1 := npower (n := k) hN (HT.out.below hb) (by omega) (by omega) (by omega)
    clear hg2 hb HS hN
    go_wp2_with fail
    refine F1.mono ?_
    rintro e w2 ⟨⟨v2, rfl, N2⟩, hb⟩
    have HB2 := hid_below HB hb
    have HNG2 := hide (HNG.out.below hb)
    replace N2 := N2.base HB.out.size
    have HC : Calls Tryz.prog 62 #[v2, va] w2 fun e w' => e = .returned (.int .i64 (cmpN (g ^ k) (val X))) ∧ Same w2 w' := by
      obtain ⟨r2, a2, e2, _, _⟩ := N2.arg (by omega)
      have h := compare_any v2 va r2 X w2 a2 (HA.out.below HB2.out)
      rw [e2] at h
      exact h
    clear hb F1
    by_cases hfin : g ^ k ≤ val X
    · obtain rfl : g = r := Nat.le_antisymm (rootK_le HR.out hfin) hg1
      have hc := cmpN_le hfin
      have HF := hide hfin
      generalize cmpN (g ^ k) (val X) = cc at *
      clear hfin
      go_wp2_with fail
      refine HC.mono ?_
      rintro e w3 ⟨rfl, hsm⟩
      have hb := hsm.below w2.heap.size
      have HB3 := hid_below HB2 hb
      have HNG3 := hide (HNG2.out.below hb)
      have F2 : Calls Tryz.prog 54 #[va, v2] w3 (NbDone w3 (val X - g ^ k)) := by
        obtain ⟨r2, a2, e2, _, _⟩ := (N2.below hb).arg (by omega)
        have h := rless_any va v2 X r2 w3 (HA.out.below HB3.out) a2 (by omega) (by rw [e2]; exact HF.out)
        rw [e2] at h
        exact h.mono fun _ _ h => h.nb
      clear hb hsm HC N2
      go_wp2_with fail
      refine F2.mono ?_
      rintro e w4 ⟨⟨v4, rfl, N4⟩, hb⟩
      have HD := hide (show NbDone2 w g rr (.returned (.tuple #[u, v4])) w4 from ⟨⟨u, v4, rfl, HNG3.out.below hb, by rw [HRR.out]; exact N4.base HB3.out.size⟩, (hid_below HB3 hb).out⟩)
      clear F2 N4 hb
      go_wp2
      go_returns
      exact HD.out
    · have hc : (0 : Int) < cmpN (g ^ k) (val X) := by rw [cmpN_gt (by omega)]; omega
      have hc2 : ¬ cmpN (g ^ k) (val X) ≤ 0 := by omega
      have hgr : r < g := by
        rcases Nat.lt_or_ge r g with h | h
        · exact h
        · exfalso
          have : g = r := by omega
          rw [this] at hfin
          exact hfin HR.out.1
      generalize cmpN (g ^ k) (val X) = cc at *
      clear hfin N2
      go_wp2_with fail
      refine HC.mono ?_
      rintro e w3 ⟨rfl, hsm⟩
      have hb := hsm.below w2.heap.size
      have HB3 := hid_below HB2 hb
      have HNG3 := hide (HNG2.out.below hb)
      have F2 := nfrom 1 w3 (by omega)
      clear hb hsm HC
      go_wp2_with fail
      refine F2.mono ?_
      rintro e w4 ⟨⟨v4, rfl, N4⟩, hb⟩
      have HB4 := hid_below HB3 hb
      have F3 := nless (HNG3.out.below hb) N4 (by omega) (by omega)
      clear F2 N4 hb
      go_wp2_with fail
      refine F3.mono ?_
      rintro e w5 ⟨⟨v5, rfl, N5⟩, hb⟩
      have HD := hide (And.intro (N5.base HB4.out.size) (hid_below HB4 hb).out)
      have HM5 : Hid (rdV w5 v5 = g - 1) := by
        obtain ⟨rs, a, e, _, _⟩ := N5.arg (Nat.le_trans (blen_mono (Nat.sub_le _ _)) (by omega))
        exact hide (by rw [rdV_arg a]; exact e)
      clear F3 N5 hb
      go_wp2
      go_roundw
      case rel => exact ⟨g - 1, _, rfl, HD.out.1, by omega, by have := HGG.out.2; omega, HD.out.2⟩
      case measure => rw [HM5.out, HM.out]; omega

theorem further_any : ∀ N, FurOk N
  | 0 => fun X va w k r h => absurd h (Nat.not_lt_zero _)
  | N + 1 => fun X va w k r h hA hT hl hbx hk1 hk2 hr => by
    have IH : FurOk (blen (val X)) := fun X' va' w' k' r' h' => further_any N X' va' w' k' r' (by omega)
    refine further_of X va w k r ?_ hA hT hl hbx hk1 hk2 hr
    by_cases h64 : rlen (val X) k ≤ 64
    · exact guess_small X va w k r hA hT hl hbx hk1 hk2 hr h64
    · exact guess_big X va w k r IH hA hT hl hbx hk1 hk2 hr (by omega)

end Go.Proofs.YteecnckfkcmefaaGreatDoor

/- Package roots: Root. -/
namespace Go.Proofs.YteecnckfkcmefaaGreatDoor
open Go.RowKit
open Lm
attribute [local go_sem ↓] Go.wp_at_zero Go.wp_at_succ

/-- Two owned numbers. -/
def RootDone (w : World) (x y : Nat) (e : Ending) (w' : World) : Prop := (∃ v1 v2, e = .returned (.tuple #[v1, v2, .int .i64 0]) ∧ Nb w' w.heap.size v1 x ∧ Nb w' w.heap.size v2 y) ∧ Below w.heap.size w w'

theorem answers_fit (v1 v2 : Value) (x y B : Nat) (w : World) (h1 : Nb w B v1 x) (h2 : Nb w B v2 y) (hx : blen x ≤ 67108864) (hy : blen y ≤ 67108864) :
    Calls Tryz.prog 40 #[v1, v2] w fun e w' => w' = w ∧ ∃ u1 u2, e = .returned (.tuple #[u1, u2, .int .i64 0]) ∧ Nb w B u1 x ∧ Nb w B u2 y := by
  refine (ranswers_any v1 v2 B B x y w h1 h2 hx (by omega)).mono ?_
  rintro e w' ⟨hw, ht⟩
  refine ⟨hw, ?_⟩
  rw [Nat.min_self] at ht
  rcases ht with ⟨_, _, u1, u2, h1, h2, h3⟩ | ⟨h, _⟩
  · exact ⟨u1, u2, h1, h2, h3⟩
  · omega

set_option maxRecDepth 20000 in
set_option maxHeartbeats 2000000 in
theorem rroot_any (va : Value) (X : List Nat) (k r : Nat) (w : World) (hA : Arg w va X) (hT : Tab w) (hl : X.length ≤ 17592186044000) (hbx : blen (val X) ≤ 67108864) (hk1 : 1 ≤ k) (hk2 : k ≤ 9223372036854775807) (hr : IsRootK (val X) k r) :
    Calls Tryz.prog 23 #[va, .int .i64 (k : Int)] w (RootDone w r (val X - r ^ k)) := by
  unfold RootDone
  have HL := length_val va X w hA
  have HR := rootLength_any va X k w hA hk1 hk2
  have hrl : rlen (val X) k ≤ 67108864 := Nat.le_trans (rlen_le_blen _ _ hk1) hbx
  have i0 : ¬ (k : Int) < 1 := by omega
  have i1 : ¬ (67108864 : Int) < ((rlen (val X) k : Nat) : Int) := by omega
  have br : blen r ≤ 67108864 := Nat.le_trans (blen_mono (rootK_small hk1 hr)) hbx
  have bs : blen (val X - r ^ k) ≤ 67108864 := Nat.le_trans (blen_mono (Nat.sub_le _ _)) hbx
  obtain ⟨rl, hrl'⟩ : ∃ rl, rlen (val X) k = rl := ⟨_, rfl⟩
  rw [hrl'] at HR i1
  clear hrl hrl'
  by_cases h0 : val X = 0
  · have hr0 : r = 0 := by have := rootK_small hk1 hr; omega
    have HE : Hid (val X = r ∧ val X - r ^ k = 0) := hide ⟨by omega, by omega⟩
    have HN := nnorm_any va X w hA (by omega)
    have hb0 : blen (val X) = 0 := (blen_zero_iff _).2 h0
    rw [hb0] at HL
    clear hA hr h0 hr0 br bs hb0 hbx
    go_enter Tryz.func23, Tryz.ntmps23
    go_wp2_with fail
    refine HL.mono ?_
    rintro e wn ⟨rfl, hw⟩; rw [hw]; clear hw wn HL
    go_wp2_with fail
    refine HR.mono ?_
    rintro e wn ⟨rfl, hw⟩; rw [hw]; clear hw wn HR
    go_wp2_with fail
    refine HN.mono ?_
    rintro e w1 ⟨⟨v1, rfl, A1⟩, hb1⟩
    have HD := hide (And.intro (show Nb w1 w.heap.size v1 r from ⟨_, A1, by rw [val_tr]; exact HE.out.1, tr_tr _⟩) hb1)
    clear A1 hb1 HN
    go_wp2
    go_returns
    refine ⟨⟨_, _, rfl, HD.out.1, ?_⟩, HD.out.2⟩
    rw [HE.out.2]
    exact ⟨[], Ans.nil _ _, rfl, rfl⟩
  · have hL0 : blen (val X) ≠ 0 := fun h => h0 ((blen_zero_iff _).1 h)
    obtain ⟨L, hL⟩ : ∃ L, blen (val X) = L := ⟨_, rfl⟩
    rw [hL] at HL
    have iL : ((L : Int) == 0) = false := by rw [beq_eq_false_iff_ne]; omega
    by_cases h1 : k = 1
    · subst h1
      have hrx : r = val X := by
        have := hr.1; have := hr.2
        rw [Nat.pow_one] at *
        omega
      have HE : Hid (val X = r ∧ val X - r ^ 1 = 0) := hide ⟨hrx.symm, by rw [Nat.pow_one]; omega⟩
      have HN := nnorm_any va X w hA (by omega)
      clear hA hr hrx br bs hL hL0 hbx h0
      go_enter Tryz.func23, Tryz.ntmps23
      go_wp2_with fail
      refine HL.mono ?_
      rintro e wn ⟨rfl, hw⟩; rw [hw]; clear hw wn HL
      go_wp2_with fail
      refine HR.mono ?_
      rintro e wn ⟨rfl, hw⟩; rw [hw]; clear hw wn HR
      go_wp2_with fail
      refine HN.mono ?_
      rintro e w1 ⟨⟨v1, rfl, A1⟩, hb1⟩
      have HD := hide (And.intro (show Nb w1 w.heap.size v1 r from ⟨_, A1, by rw [val_tr]; exact HE.out.1, tr_tr _⟩) hb1)
      clear A1 hb1 HN
      go_wp2
      go_returns
      refine ⟨⟨_, _, rfl, HD.out.1, ?_⟩, HD.out.2⟩
      rw [HE.out.2]
      exact ⟨[], Ans.nil _ _, rfl, rfl⟩
    · have ik1 : ((k : Int) == 1) = false := by rw [beq_eq_false_iff_ne]; omega
      by_cases h2 : L ≤ k
      · have i2 : (L : Int) ≤ (k : Int) := by omega
        have hr1 : r = 1 := by
          refine rootK_uniq hk1 hr ⟨by rw [Nat.one_pow]; omega, ?_⟩
          have := (blen_le_iff (val X) k).1 (by omega)
          exact this
        have e1 : val X - r ^ k = val X - 1 := by rw [hr1, Nat.one_pow]
        rw [e1] at bs ⊢
        subst hr1
        have HF := nfrom 1 w (by omega)
        have HA := hide hA
        have HX := hide (show 1 ≤ val X by omega)
        clear hA hr h1 h2 hL hL0 e1 h0 hbx
        go_enter Tryz.func23, Tryz.ntmps23
        go_wp2_with fail
        refine HL.mono ?_
        rintro e wn ⟨rfl, hw⟩; rw [hw]; clear hw wn HL
        go_wp2_with fail
        refine HR.mono ?_
        rintro e wn ⟨rfl, hw⟩; rw [hw]; clear hw wn HR
        go_wp2_with fail
        refine HF.mono ?_
        rintro e w1 ⟨⟨v1, rfl, N1⟩, hb1⟩
        have HB := hide hb1
        have F1 : Calls Tryz.prog 54 #[va, v1] w1 (NbDone w1 (val X - 1)) := by
          obtain ⟨r1, a1, p1, _, _⟩ := N1.arg (by rw [show blen 1 = 1 from rfl]; omega)
          have h := rless_any va v1 X r1 w1 (HA.out.below hb1) a1 (by omega) (by rw [p1]; exact HX.out)
          rw [p1] at h
          exact h.mono fun _ _ h => h.nb
        clear hb1 HF
        go_wp2_with fail
        refine F1.mono ?_
        rintro e w2 ⟨⟨v2, rfl, N2⟩, hb2⟩
        replace N1 := N1.below hb2
        replace N2 := N2.base HB.out.size
        replace HB := hid_below HB hb2
        have F2 := answers_fit v1 v2 1 (val X - 1) w.heap.size w2 N1 N2 br bs
        clear hb2 F1 N1 N2
        go_wp2_with fail
        refine F2.mono ?_
        rintro e wn ⟨hw, u1, u2, rfl, m1, m2⟩
        subst hw
        have HD := hide (And.intro m1 m2)
        clear m1 m2 F2
        go_wp2
        go_returns
        exact ⟨⟨_, _, rfl, HD.out.1, HD.out.2⟩, HB.out⟩
      · have i2 : ¬ (L : Int) ≤ (k : Int) := by omega
        by_cases h3 : k = 2
        · subst h3
          have F1 := rsecond_any (blen (val X)) X va w r (Nat.le_refl _) (by omega) hA hT hl (rootK_two.1 hr)
          rw [← Nat.pow_two] at F1
          clear hA hT hr h1 h2 hL hL0 h0 hbx
          go_enter Tryz.func23, Tryz.ntmps23
          go_wp2_with fail
          refine HL.mono ?_
          rintro e wn ⟨rfl, hw⟩; rw [hw]; clear hw wn HL
          go_wp2_with fail
          refine HR.mono ?_
          rintro e wn ⟨rfl, hw⟩; rw [hw]; clear hw wn HR
          go_wp2_with fail
          refine F1.mono ?_
          rintro e w1 ⟨⟨v1, v2, rfl, N1, N2⟩, hb1⟩
          have HB := hide hb1
          have F2 := answers_fit v1 v2 r (val X - r ^ 2) w.heap.size w1 N1 N2 br bs
          clear hb1 F1 N1 N2
          go_wp2_with fail
          refine F2.mono ?_
          rintro e wn ⟨hw, u1, u2, rfl, m1, m2⟩
          subst hw
          have HD := hide (And.intro m1 m2)
          clear m1 m2 F2
          go_wp2
          go_returns
          exact ⟨⟨_, _, rfl, HD.out.1, HD.out.2⟩, HB.out⟩
        · have ik2 : ((k : Int) == 2) = false := by rw [beq_eq_false_iff_ne]; omega
          have F1 := further_any (blen (val X) + 1) X va w k r (by omega) hA hT hl hbx (by omega) (by omega) hr
          clear hA hT hr h1 h2 hL hL0 h0 hbx
          go_enter Tryz.func23, Tryz.ntmps23
          go_wp2_with fail
          refine HL.mono ?_
          rintro e wn ⟨rfl, hw⟩; rw [hw]; clear hw wn HL
          go_wp2_with fail
          refine HR.mono ?_
          rintro e wn ⟨rfl, hw⟩; rw [hw]; clear hw wn HR
          go_wp2_with fail
          refine F1.mono ?_
          rintro e w1 ⟨⟨v1, v2, rfl, N1, N2⟩, hb1⟩
          have HB := hide hb1
          have F2 := answers_fit v1 v2 r (val X - r ^ k) w.heap.size w1 N1 N2 br bs
          clear hb1 F1 N1 N2
          go_wp2_with fail
          refine F2.mono ?_
          rintro e wn ⟨hw, u1, u2, rfl, m1, m2⟩
          subst hw
          have HD := hide (And.intro m1 m2)
          clear m1 m2 F2
          go_wp2
          go_returns
          exact ⟨⟨_, _, rfl, HD.out.1, HD.out.2⟩, HB.out⟩

end Go.Proofs.YteecnckfkcmefaaGreatDoor
