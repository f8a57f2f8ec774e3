/- Plain facts: digits of 32 bits shifted. -/
import Derived.Test.YtmloigbacfllhaaDoorP33
import Derived.Test.YtmloigbacfllhaaDoorShift
namespace Go.Proofs.YtmloigbacfllhaaDoor
open Lm

theorem two32 (s : Nat) (hs : s ≤ 32) : (4294967296 : Nat) = 2 ^ (32 - s) * 2 ^ s := by
  rw [← Nat.pow_add, Nat.sub_add_cancel hs]

theorem two_digits (q s : Nat) : 2 ^ (q * 32 + s) = 4294967296 ^ q * 2 ^ s := by
  rw [Nat.pow_add, Nat.mul_comm q 32, Nat.pow_mul]

theorem shl32_mod (x s o : Nat) (hs : s ≤ 32) (ho : o < 2 ^ s) : o + x * 2 ^ s % 4294967296 < 4294967296 := by
  have e : x * 2 ^ s % 4294967296 = x % 2 ^ (32 - s) * 2 ^ s := by
    conv => lhs; rw [two32 s hs, Nat.mul_mod_mul_right]
  have h1 : x % 2 ^ (32 - s) < 2 ^ (32 - s) := Nat.mod_lt _ (Nat.two_pow_pos _)
  have h2 : (x % 2 ^ (32 - s) + 1) * 2 ^ s ≤ 2 ^ (32 - s) * 2 ^ s := Nat.mul_le_mul_right _ h1
  rw [← two32 s hs, Nat.add_mul, Nat.one_mul] at h2
  omega

theorem shl32_div (x s : Nat) (hx : x < 4294967296) : x * 2 ^ s / 4294967296 < 2 ^ s := by
  rw [Nat.div_lt_iff_lt_mul (by omega), Nat.mul_comm (2 ^ s)]
  exact Nat.mul_lt_mul_of_pos_right hx (Nat.two_pow_pos _)

theorem shl32_fit (x s : Nat) (hx : x < 4294967296) (hs : s < 32) : x * 2 ^ s < 18446744073709551616 := by
  have h : 2 ^ s ≤ 2 ^ 32 := Nat.pow_le_pow_right (by omega) (by omega)
  have := Nat.mul_le_mul (Nat.le_sub_one_of_lt hx) h
  omega

theorem rshl_step (X out : List Nat) (q s k n : Nat) (hn : n = q * 32 + s) (hk : q + k + 1 < out.length) (h : vb 4294967296 (out.take (q + k + 1)) = vb 4294967296 (X.take k) * 2 ^ n) :
    vb 4294967296 (((out.set (q + k) (out.getD (q + k) 0 + X.getD k 0 * 2 ^ s % 4294967296)).set (q + k + 1) (X.getD k 0 * 2 ^ s / 4294967296)).take (q + k + 1 + 1)) = vb 4294967296 (X.take (k + 1)) * 2 ^ n := by
  rw [vb_set_succ _ _ _ (by simpa using hk), vb_set_succ _ _ _ (by omega), vb_take_next X k]
  rw [vb_take_next] at h
  have ht := Nat.mod_add_div (X.getD k 0 * 2 ^ s) 4294967296
  have e : 2 ^ n = 4294967296 ^ q * 2 ^ s := by rw [hn, two_digits]
  have e2 : 4294967296 ^ (q + k) = 4294967296 ^ q * 4294967296 ^ k := Nat.pow_add _ _ _
  have e3 : 4294967296 ^ (q + k + 1) = 4294967296 ^ (q + k) * 4294967296 := Nat.pow_succ ..
  rw [e3]
  rw [e2] at h ⊢
  rw [e] at h ⊢
  generalize X.getD k 0 * 2 ^ s % 4294967296 = r at *
  generalize X.getD k 0 * 2 ^ s / 4294967296 = d at *
  generalize X.getD k 0 = x at *
  generalize out.getD (q + k) 0 = o at *
  generalize vb 4294967296 (out.take (q + k)) = V at *
  generalize vb 4294967296 (X.take k) = U at *
  generalize 4294967296 ^ q = Q at *
  generalize 4294967296 ^ k = K at *
  generalize 2 ^ s = S at *
  generalize 4294967296 = B at *
  grind

/-- The digits of a number shifted down by less than a digit. -/
def shrL (s : Nat) : List Nat → List Nat
  | [] => []
  | y :: r => (y + r.getD 0 0 * 4294967296) / 2 ^ s % 4294967296 :: shrL s r

theorem shrL_length (s : Nat) : ∀ Y : List Nat, (shrL s Y).length = Y.length
  | [] => rfl
  | _ :: r => by simp [shrL, shrL_length s r]

theorem shrL_cons (s y : Nat) (r : List Nat) : shrL s (y :: r) = (y + r.getD 0 0 * 4294967296) / 2 ^ s % 4294967296 :: shrL s r := by rw [shrL]

theorem shrL_getD (s : Nat) (Y : List Nat) (k : Nat) (h : k < Y.length) : (shrL s Y).getD k 0 = (Y.getD k 0 + Y.getD (k + 1) 0 * 4294967296) / 2 ^ s % 4294967296 := by
  induction Y generalizing k with
  | nil => simp at h
  | cons y r ih =>
    rw [shrL_cons]
    cases k with
    | zero => rw [List.getD_cons_zero, List.getD_cons_zero, List.getD_cons_succ]
    | succ k => rw [List.getD_cons_succ, List.getD_cons_succ, List.getD_cons_succ, ih k (by simpa using h)]

theorem shrL_digs (s : Nat) : ∀ Y : List Nat, Digs 4294967296 (shrL s Y)
  | [] => fun z hz => by cases hz
  | y :: r => fun z hz => by
    rcases List.mem_cons.1 hz with rfl | h
    · exact Nat.mod_lt _ (by omega)
    · exact shrL_digs s r z h

theorem shr_digit (y R S t : Nat) (hy : y < 4294967296) (hS : 0 < S) (ht : 4294967296 = t * S) :
    (y + 4294967296 * R) / S = (y + R % 4294967296 * 4294967296) / S % 4294967296 + 4294967296 * (R / S) := by
  have e1 : y + 4294967296 * R = y + 4294967296 * (R % S) + (4294967296 * (R / S)) * S := by
    have := Nat.mod_add_div R S
    grind
  have e2 : R % S = R % 4294967296 % S := by rw [Nat.mod_mod_of_dvd]; exact ⟨t, by rw [Nat.mul_comm]; exact ht⟩
  have e3 : y + R % 4294967296 * 4294967296 = y + 4294967296 * (R % S) + (4294967296 * (R % 4294967296 / S)) * S := by
    have := Nat.mod_add_div (R % 4294967296) S
    grind
  rw [e1, e3, Nat.add_mul_div_right _ _ hS, Nat.add_mul_div_right _ _ hS, Nat.add_mul_mod_self_left]
  congr 1
  refine (Nat.mod_eq_of_lt ?_).symm
  rw [Nat.div_lt_iff_lt_mul hS]
  have h1 : R % S < S := Nat.mod_lt _ hS
  have h2 : 4294967296 * (R % S + 1) ≤ 4294967296 * S := Nat.mul_le_mul_left _ h1
  omega

theorem vb_head (r : List Nat) (h : Digs 4294967296 r) : vb 4294967296 r % 4294967296 = r.getD 0 0 := by
  cases r with
  | nil => rfl
  | cons a r =>
    show (a + 4294967296 * vb 4294967296 r) % 4294967296 = a
    rw [Nat.add_mul_mod_self_left]
    exact Nat.mod_eq_of_lt (h a (List.mem_cons_self ..))

theorem shrL_val (s : Nat) (hs : s < 32) : ∀ Y : List Nat, Digs 4294967296 Y → vb 4294967296 (shrL s Y) = vb 4294967296 Y / 2 ^ s
  | [], _ => by simp [shrL, vb]
  | y :: r, h => by
    have hr : Digs 4294967296 r := fun z hz => h z (List.mem_cons_of_mem _ hz)
    rw [shrL_cons, vb, vb, shrL_val s hs r hr, shr_digit y _ (2 ^ s) (2 ^ (32 - s)) (h y (List.mem_cons_self ..)) (Nat.two_pow_pos _) (two32 s (by omega)), vb_head r hr]

theorem take_set_list (out L : List Nat) (k : Nat) (hl : out.length = L.length) (hk : k < L.length) (h : out.take k = L.take k) : (out.set k (L.getD k 0)).take (k + 1) = L.take (k + 1) := by
  rw [List.take_add_one, List.take_add_one, List.take_set_of_le (Nat.le_refl _), h]
  simp [hl, hk, List.getD]

theorem vb_drop (X : List Nat) (q : Nat) (h : Digs 4294967296 X) (hq : q ≤ X.length) : vb 4294967296 (X.drop q) = vb 4294967296 X / 4294967296 ^ q := by
  have e : vb 4294967296 X = vb 4294967296 (X.take q) + 4294967296 ^ q * vb 4294967296 (X.drop q) := by
    conv => lhs; rw [← List.take_append_drop q X, vb_append]
    rw [List.length_take, Nat.min_eq_left hq]
  have hlt := vb_take_lt h q
  rw [B_pow] at e ⊢
  rw [e, Nat.add_mul_div_left _ _ (Nat.two_pow_pos _), Nat.div_eq_of_lt hlt, Nat.zero_add]

theorem rshr_val (X : List Nat) (q s : Nat) (h : Digs 4294967296 X) (hq : q ≤ X.length) (hs : s < 32) : vb 4294967296 (shrL s (X.drop q)) = vb 4294967296 X / 2 ^ (q * 32 + s) := by
  rw [shrL_val s hs _ (fun z hz => h z (List.mem_of_mem_drop hz)), vb_drop X q h hq, Nat.div_div_eq_div_mul, two_digits]

theorem rshr_none (X : List Nat) (n : Nat) (h : Digs 4294967296 X) (hq : X.length ≤ n / 32) : vb 4294967296 X / 2 ^ n = 0 := by
  apply Nat.div_eq_of_lt
  have h1 := vb_lt h
  have h2 : 4294967296 ^ X.length ≤ 2 ^ n := by
    rw [show (4294967296 : Nat) = 2 ^ 32 from rfl, ← Nat.pow_mul]
    exact Nat.pow_le_pow_right (by omega) (by omega)
  omega

end Go.Proofs.YtmloigbacfllhaaDoor
