/- Plain facts: the bits that are 1, reckoned by bytes side by side. -/
import Derived.Test.YtmloigbacfllhaaDoorPure
namespace Go.Proofs.YtmloigbacfllhaaDoor

/-- The bits 1 among the lowest k. -/
def pcb : Nat → Nat → Nat
  | 0, _ => 0
  | k + 1, x => x % 2 + pcb k (x / 2)

/-- Byte by byte. -/
def dm (g : Nat → Nat) : Nat → Nat → Nat
  | 0, _ => 0
  | n + 1, x => g (x % 256) + 256 * dm g n (x / 256)

def repB (c : Nat) : Nat → Nat
  | 0 => 0
  | n + 1 => c + 256 * repB c n

theorem and_byte (h l mh ml : Nat) (hl : l < 256) (hm : ml < 256) : (l + 256 * h) &&& (ml + 256 * mh) = (l &&& ml) + 256 * (h &&& mh) := by
  have e1 : l + 256 * h = 2 ^ 8 * h + l := by omega
  have e2 : ml + 256 * mh = 2 ^ 8 * mh + ml := by omega
  have hb : l &&& ml < 2 ^ 8 := Nat.lt_of_le_of_lt Nat.and_le_left hl
  have e3 : (l &&& ml) + 256 * (h &&& mh) = 2 ^ 8 * (h &&& mh) + (l &&& ml) := by omega
  rw [e1, e2, e3]
  apply Nat.eq_of_testBit_eq
  intro i
  rw [Nat.testBit_and, Nat.testBit_two_pow_mul_add _ hl, Nat.testBit_two_pow_mul_add _ hm, Nat.testBit_two_pow_mul_add _ hb]
  split <;> simp [Nat.testBit_and]

theorem and_split (x c n : Nat) (hc : c < 256) : x &&& repB c (n + 1) = (x % 256 &&& c) + 256 * (x / 256 &&& repB c n) := by
  have e : x = x % 256 + 256 * (x / 256) := by omega
  conv => lhs; rw [e]
  rw [repB, and_byte _ _ _ _ (by omega) hc]

theorem dm_add (g h : Nat → Nat) (n x : Nat) : dm g n x + dm h n x = dm (fun b => g b + h b) n x := by
  induction n generalizing x with
  | zero => rfl
  | succ n ih => simp only [dm]; rw [← ih]; omega

theorem dm_comp (g h : Nat → Nat) (hg : ∀ b, b < 256 → g b < 256) (n x : Nat) : dm h n (dm g n x) = dm (fun b => h (g b)) n x := by
  induction n generalizing x with
  | zero => rfl
  | succ n ih =>
    have hb := hg (x % 256) (by omega)
    have e1 : (g (x % 256) + 256 * dm g n (x / 256)) % 256 = g (x % 256) := by omega
    have e2 : (g (x % 256) + 256 * dm g n (x / 256)) / 256 = dm g n (x / 256) := by omega
    simp only [dm]
    rw [e1, e2, ih]

theorem dm_and (c n x : Nat) (hc : c < 256) : x &&& repB c n = dm (fun b => b &&& c) n x := by
  induction n generalizing x with
  | zero => simp [repB, dm]
  | succ n ih => rw [and_split x c n hc, ih]; rfl

theorem byte1 : ∀ y : Fin 512, (y.1 / 2 % 256) &&& 85 = ((y.1 % 256) / 2) &&& 85 := by decide +kernel
theorem byte2 : ∀ y : Fin 1024, (y.1 / 4 % 256) &&& 51 = ((y.1 % 256) / 4) &&& 51 := by decide +kernel

theorem dm_half (n x : Nat) : (x / 2) &&& repB 85 n = dm (fun b => (b / 2) &&& 85) n x := by
  induction n generalizing x with
  | zero => simp [repB, dm]
  | succ n ih =>
    rw [and_split _ _ _ (by omega)]
    have e1 : x / 2 / 256 = x / 256 / 2 := by omega
    have h := byte1 ⟨x % 512, by omega⟩
    have e2 : x % 512 / 2 % 256 = x / 2 % 256 := by omega
    have e3 : x % 512 % 256 = x % 256 := by omega
    simp only [e2, e3] at h
    rw [e1, ih, h]; rfl

theorem dm_quarter (n x : Nat) : (x / 4) &&& repB 51 n = dm (fun b => (b / 4) &&& 51) n x := by
  induction n generalizing x with
  | zero => simp [repB, dm]
  | succ n ih =>
    rw [and_split _ _ _ (by omega)]
    have e1 : x / 4 / 256 = x / 256 / 4 := by omega
    have h := byte2 ⟨x % 1024, by omega⟩
    have e2 : x % 1024 / 4 % 256 = x / 4 % 256 := by omega
    have e3 : x % 1024 % 256 = x % 256 := by omega
    simp only [e2, e3] at h
    rw [e1, ih, h]; rfl

theorem and15 (y : Nat) : (y % 256) &&& 15 = y % 16 := by
  have : (15 : Nat) = 2 ^ 4 - 1 := rfl
  rw [this, Nat.and_two_pow_sub_one_eq_mod]; omega

theorem dm_low (g : Nat → Nat) (h : ∀ b, b < 256 → g b % 16 ≤ 4 ∧ g b / 16 ≤ 4) (n x : Nat) : dm g n x % 16 ≤ 4 := by
  cases n with
  | zero => simp [dm]
  | succ n => have := h (x % 256) (by omega); simp only [dm]; omega

theorem dm_nib (g : Nat → Nat) (h : ∀ b, b < 256 → g b % 16 ≤ 4 ∧ g b / 16 ≤ 4) (n x : Nat) :
    (dm g n x / 16 + dm g n x) &&& repB 15 n = dm (fun b => (g b / 16 + g b) % 16) n x := by
  induction n generalizing x with
  | zero => simp [repB, dm]
  | succ n ih =>
    have h0 := h (x % 256) (by omega)
    have h1 := dm_low g h n (x / 256)
    have ih' := ih (x / 256)
    simp only [dm]
    generalize dm g n (x / 256) = r at *
    generalize g (x % 256) = c at *
    rw [and_split _ _ _ (by omega), and15]
    have e1 : ((c + 256 * r) / 16 + (c + 256 * r)) / 256 = r / 16 + r := by omega
    have e2 : ((c + 256 * r) / 16 + (c + 256 * r)) % 16 = (c / 16 + c) % 16 := by omega
    rw [e1, e2, ih']

/-- What the four steps make of a byte. -/
def g1 (b : Nat) : Nat := ((b / 2) &&& 85) + (b &&& 85)
def g2 (b : Nat) : Nat := ((g1 b / 4) &&& 51) + (g1 b &&& 51)

theorem g1_lt : ∀ b : Fin 256, g1 b.1 < 256 := by decide +kernel
theorem g2_nib : ∀ b : Fin 256, g2 b.1 % 16 ≤ 4 ∧ g2 b.1 / 16 ≤ 4 := by decide +kernel
theorem g3_pcb : ∀ b : Fin 256, (g2 b.1 / 16 + g2 b.1) % 16 = pcb 8 b.1 := by decide +kernel
theorem pcb8_le : ∀ b : Fin 256, pcb 8 b.1 ≤ 8 := by decide +kernel

theorem dm_ext (g h : Nat → Nat) (e : ∀ b, b < 256 → g b = h b) (n x : Nat) : dm g n x = dm h n x := by
  induction n generalizing x with
  | zero => rfl
  | succ n ih => simp only [dm]; rw [e _ (by omega), ih]

theorem pop_three (n x : Nat) : ∃ x1 x2, x1 = ((x / 2) &&& repB 85 n) + (x &&& repB 85 n) ∧ x2 = ((x1 / 4) &&& repB 51 n) + (x1 &&& repB 51 n) ∧ (x2 / 16 + x2) &&& repB 15 n = dm (fun b => pcb 8 b) n x ∧ x1 = dm g1 n x ∧ x2 = dm g2 n x := by
  refine ⟨_, _, rfl, rfl, ?_⟩
  have e1 : ((x / 2) &&& repB 85 n) + (x &&& repB 85 n) = dm g1 n x := by
    rw [dm_half, dm_and _ _ _ (by omega), dm_add]; rfl
  rw [e1]
  have e2 : ((dm g1 n x / 4) &&& repB 51 n) + (dm g1 n x &&& repB 51 n) = dm g2 n x := by
    rw [dm_quarter, dm_and _ _ _ (by omega), dm_add, dm_comp _ _ (fun b hb => g1_lt ⟨b, hb⟩)]; rfl
  rw [e2]
  refine ⟨?_, rfl, rfl⟩
  rw [dm_nib g2 (fun b hb => g2_nib ⟨b, hb⟩)]
  exact dm_ext _ _ (fun b hb => g3_pcb ⟨b, hb⟩) _ _

theorem pcb_byte (k x : Nat) : pcb (8 + k) x = pcb 8 (x % 256) + pcb k (x / 256) := by
  have e : 8 + k = k + 1 + 1 + 1 + 1 + 1 + 1 + 1 + 1 := by omega
  rw [e]
  simp only [pcb]
  have : x / 2 / 2 / 2 / 2 / 2 / 2 / 2 / 2 = x / 256 := by omega
  rw [this]
  omega

theorem div_low (c m r : Nat) (h : c < m) : (c + m * r) / m = r := by
  rw [Nat.add_mul_div_left _ _ (by omega), Nat.div_eq_of_lt h, Nat.zero_add]

/-- The bytes' sums, one after another. -/
theorem sum8 (p0 p1 p2 p3 p4 p5 p6 p7 : Nat) (b0 : p0 ≤ 8) (b1 : p1 ≤ 8) (b2 : p2 ≤ 8) (b3 : p3 ≤ 8) (b4 : p4 ≤ 8) (b5 : p5 ≤ 8) (b6 : p6 ≤ 8) (b7 : p7 ≤ 8) (y3 : Nat) (h3 : y3 = p0 + 256 * p1 + 65536 * p2 + 16777216 * p3 + 4294967296 * p4 + 1099511627776 * p5 + 281474976710656 * p6 + 72057594037927936 * p7) :
    ∃ y4 y5 y6, y4 = y3 + y3 / 256 ∧ y5 = y4 + y4 / 65536 ∧ y6 = y5 + y5 / 4294967296 ∧ y6 % 128 = p0 + (p1 + (p2 + (p3 + (p4 + (p5 + (p6 + p7)))))) ∧ y4 < 18446744073709551616 ∧ y5 < 18446744073709551616 ∧ y6 < 18446744073709551616 := by
  obtain ⟨R1, hR1⟩ : ∃ r, r = p1 + 256 * p2 + 65536 * p3 + 16777216 * p4 + 4294967296 * p5 + 1099511627776 * p6 + 281474976710656 * p7 := ⟨_, rfl⟩
  obtain ⟨R2, hR2⟩ : ∃ r, r = (p2 + p3) + 256 * (p3 + p4) + 65536 * (p4 + p5) + 16777216 * (p5 + p6) + 4294967296 * (p6 + p7) + 1099511627776 * p7 := ⟨_, rfl⟩
  obtain ⟨R3, hR3⟩ : ∃ r, r = (p4 + p5 + (p6 + p7)) + 256 * (p5 + p6 + p7) + 65536 * (p6 + p7) + 16777216 * p7 := ⟨_, rfl⟩
  obtain ⟨R4, hR4⟩ : ∃ r, r = 2 * (p1 + p2 + p3 + p4) + 512 * (p2 + p3 + p4 + p5) + 131072 * (p3 + p4 + p5 + p6) + 33554432 * R3 + 2 * (p5 + p6 + p7) + 512 * (p6 + p7) + 131072 * p7 := ⟨_, rfl⟩
  have f3 : y3 = p0 + 256 * R1 := by clear b0 b1 b2 b3 b4 b5 b6 b7 hR2 hR3 hR4; omega
  have f4 : y3 + R1 = (p0 + p1 + 256 * (p1 + p2)) + 65536 * R2 := by clear b0 b1 b2 b3 b4 b5 b6 b7 f3 hR3 hR4; omega
  have f5 : y3 + R1 + R2 = (p0 + p1 + p2 + p3 + 256 * (p1 + p2 + p3 + p4) + 65536 * (p2 + p3 + p4 + p5) + 16777216 * (p3 + p4 + p5 + p6)) + 4294967296 * R3 := by clear b0 b1 b2 b3 b4 b5 b6 b7 f3 f4 hR4; omega
  have f6 : y3 + R1 + R2 + R3 = (p0 + (p1 + (p2 + (p3 + (p4 + (p5 + (p6 + p7))))))) + 128 * R4 := by clear b0 b1 b2 b3 b4 b5 b6 b7 f3 f4 f5; omega
  have g6 : y3 + R1 + R2 + R3 < 18446744073709551616 := by clear f3 f4 f5 f6 hR4; omega
  clear h3 hR1 hR2 hR3 hR4
  have e4 : y3 / 256 = R1 := by rw [f3]; exact div_low _ _ _ (by omega)
  have e5 : (y3 + R1) / 65536 = R2 := by rw [f4]; exact div_low _ _ _ (by clear f3 f4 f5 f6 g6 e4; omega)
  have e6 : (y3 + R1 + R2) / 4294967296 = R3 := by rw [f5]; exact div_low _ _ _ (by clear f3 f4 f5 f6 g6 e4 e5; omega)
  refine ⟨_, _, _, rfl, rfl, rfl, ?_⟩
  rw [e4, e5, e6]
  refine ⟨?_, by clear f3 f4 f5 f6 e4 e5 e6; omega, by clear f3 f4 f5 f6 e4 e5 e6; omega, g6⟩
  rw [f6, Nat.add_mul_mod_self_left, Nat.mod_eq_of_lt (by clear f3 f4 f5 f6 g6 e4 e5 e6; omega)]

set_option maxHeartbeats 1000000 in
theorem dm_sum (x : Nat) (h : x < 18446744073709551616) : ∃ y4 y5 y6, y4 = dm (fun b => pcb 8 b) 8 x + dm (fun b => pcb 8 b) 8 x / 256 ∧ y5 = y4 + y4 / 65536 ∧ y6 = y5 + y5 / 4294967296 ∧ y6 % 128 = pcb 64 x ∧ y4 < 18446744073709551616 ∧ y5 < 18446744073709551616 ∧ y6 < 18446744073709551616 := by
  have e : pcb 64 x = pcb 8 (x % 256) + (pcb 8 (x / 256 % 256) + (pcb 8 (x / 256 / 256 % 256) + (pcb 8 (x / 256 / 256 / 256 % 256) + (pcb 8 (x / 256 / 256 / 256 / 256 % 256) + (pcb 8 (x / 256 / 256 / 256 / 256 / 256 % 256) + (pcb 8 (x / 256 / 256 / 256 / 256 / 256 / 256 % 256) + pcb 8 (x / 256 / 256 / 256 / 256 / 256 / 256 / 256 % 256))))))) := by
    rw [show (64 : Nat) = 8 + 56 from rfl, pcb_byte, show (56 : Nat) = 8 + 48 from rfl, pcb_byte, show (48 : Nat) = 8 + 40 from rfl, pcb_byte, show (40 : Nat) = 8 + 32 from rfl, pcb_byte, show (32 : Nat) = 8 + 24 from rfl, pcb_byte, show (24 : Nat) = 8 + 16 from rfl, pcb_byte, show (16 : Nat) = 8 + 8 from rfl, pcb_byte]
    have : x / 256 / 256 / 256 / 256 / 256 / 256 / 256 % 256 = x / 256 / 256 / 256 / 256 / 256 / 256 / 256 := by omega
    rw [this]
  have hd : dm (fun b => pcb 8 b) 8 x = pcb 8 (x % 256) + 256 * pcb 8 (x / 256 % 256) + 65536 * pcb 8 (x / 256 / 256 % 256) + 16777216 * pcb 8 (x / 256 / 256 / 256 % 256) + 4294967296 * pcb 8 (x / 256 / 256 / 256 / 256 % 256) + 1099511627776 * pcb 8 (x / 256 / 256 / 256 / 256 / 256 % 256) + 281474976710656 * pcb 8 (x / 256 / 256 / 256 / 256 / 256 / 256 % 256) + 72057594037927936 * pcb 8 (x / 256 / 256 / 256 / 256 / 256 / 256 / 256 % 256) := by
    simp only [dm]
    generalize pcb 8 (x % 256) = p0
    generalize pcb 8 (x / 256 % 256) = p1
    generalize pcb 8 (x / 256 / 256 % 256) = p2
    generalize pcb 8 (x / 256 / 256 / 256 % 256) = p3
    generalize pcb 8 (x / 256 / 256 / 256 / 256 % 256) = p4
    generalize pcb 8 (x / 256 / 256 / 256 / 256 / 256 % 256) = p5
    generalize pcb 8 (x / 256 / 256 / 256 / 256 / 256 / 256 % 256) = p6
    generalize pcb 8 (x / 256 / 256 / 256 / 256 / 256 / 256 / 256 % 256) = p7
    omega
  rw [e]
  exact sum8 _ _ _ _ _ _ _ _ (pcb8_le ⟨x % 256, by omega⟩) (pcb8_le ⟨x / 256 % 256, by omega⟩) (pcb8_le ⟨x / 256 / 256 % 256, by omega⟩) (pcb8_le ⟨x / 256 / 256 / 256 % 256, by omega⟩) (pcb8_le ⟨x / 256 / 256 / 256 / 256 % 256, by omega⟩) (pcb8_le ⟨x / 256 / 256 / 256 / 256 / 256 % 256, by omega⟩) (pcb8_le ⟨x / 256 / 256 / 256 / 256 / 256 / 256 % 256, by omega⟩) (pcb8_le ⟨x / 256 / 256 / 256 / 256 / 256 / 256 / 256 % 256, by omega⟩) _ hd

theorem pcb_le (k x : Nat) : pcb k x ≤ k := by
  induction k generalizing x with
  | zero => simp [pcb]
  | succ k ih => have := ih (x / 2); simp only [pcb]; omega

/-- Both, and either. -/
theorem pcb_and_or (k x y : Nat) : pcb k (x &&& y) + pcb k (x ||| y) = pcb k x + pcb k y := by
  induction k generalizing x y with
  | zero => rfl
  | succ k ih =>
    simp only [pcb]
    have h := ih (x / 2) (y / 2)
    have e1 : (x &&& y) / 2 = x / 2 &&& y / 2 := Nat.and_div_two
    have e2 : (x ||| y) / 2 = x / 2 ||| y / 2 := Nat.or_div_two
    have e3 : (x &&& y) % 2 + (x ||| y) % 2 = x % 2 + y % 2 := by
      have a := Nat.and_mod_two_pow (n := 1) (a := x) (b := y)
      have o := Nat.or_mod_two_pow (n := 1) (a := x) (b := y)
      simp only [Nat.pow_one] at a o
      rw [a, o]
      rcases Nat.mod_two_eq_zero_or_one x with h1 | h1 <;> rcases Nat.mod_two_eq_zero_or_one y with h2 | h2 <;> rw [h1, h2] <;> rfl
    rw [e1, e2]
    omega

end Go.Proofs.YtmloigbacfllhaaDoor
