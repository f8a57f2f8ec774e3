/- Plain facts: what is cut and rounded lies where it should. -/
import Derived.Test.YtemajaclpkgpbaaDoorDyDtZ
import Derived.Test.YtemajaclpkgpbaaDoorDyCuZ
namespace Go.Proofs.YtemajaclpkgpbaaDoor
open Go.RowKit
open Lm
attribute [local go_sem ↓] Go.wp_at_zero Go.wp_at_succ

theorem rv_down (V : Int) (P : Nat) : V - rv 0 V P = V % (P : Int) := by
  unfold rv rvQ
  rw [if_pos rfl, Int.mul_comm]
  have := Int.mul_ediv_add_emod V (P : Int)
  omega

theorem rv_up (V : Int) (P : Nat) : rv 1 V P - V = (-V) % (P : Int) := by
  unfold rv rvQ
  rw [if_neg (by decide), if_pos rfl, Int.neg_mul, Int.mul_comm]
  have := Int.mul_ediv_add_emod (-V) (P : Int)
  omega

theorem rv_off (m V : Int) (P : Nat) (hP : 0 < P) (hm : m = 0 ∨ m = 1 ∨ m = 2) : (rv m V P - V).natAbs < P ∧ (m = 2 → (rv m V P - V).natAbs * 2 ≤ P) := by
  have h1 := Int.emod_nonneg V (show (P : Int) ≠ 0 by omega)
  have h2 := Int.emod_lt_of_pos V (show (0 : Int) < (P : Int) by omega)
  have h3 := Int.emod_nonneg (-V) (show (P : Int) ≠ 0 by omega)
  have h4 := Int.emod_lt_of_pos (-V) (show (0 : Int) < (P : Int) by omega)
  rcases hm with rfl | rfl | rfl
  · have := rv_down V P
    exact ⟨by omega, fun h => by cases h⟩
  · have := rv_up V P
    exact ⟨by omega, fun h => by cases h⟩
  · have h5 := Int.mul_ediv_add_emod V (P : Int)
    unfold rv rvQ
    rw [if_neg (by decide), if_neg (by decide)]
    rw [Int.mul_comm] at h5
    generalize V / (P : Int) = q at *
    generalize V % (P : Int) = r at *
    split
    · rename_i hc
      rw [Int.add_mul, Int.one_mul]
      generalize q * (P : Int) = y at *
      exact ⟨by omega, fun _ => by omega⟩
    · rename_i hc
      generalize q * (P : Int) = y at *
      exact ⟨by omega, fun _ => by omega⟩

theorem rv_neg01 (V : Int) (P : Nat) : rv 0 (-V) P = -(rv 1 V P) := by
  unfold rv rvQ
  rw [if_pos rfl, if_neg (by decide), if_pos rfl, Int.neg_mul, Int.neg_neg]

theorem rv_neg2 (V : Int) (P : Nat) (hP : 0 < P) : rv 2 (-V) P = -(rv 2 V P) := by
  have h1 := Int.emod_nonneg V (show (P : Int) ≠ 0 by omega)
  have h2 := Int.emod_lt_of_pos V (show (0 : Int) < (P : Int) by omega)
  have h5 := Int.mul_ediv_add_emod V (P : Int)
  by_cases h0 : V % (P : Int) = 0
  · rw [rv_mult hP h0, rv_mult hP (by rw [Int.neg_emod, if_pos (Int.dvd_of_emod_eq_zero h0)])]
  have hne : -V / (P : Int) = -(V / (P : Int)) - 1 ∧ -V % (P : Int) = (P : Int) - V % (P : Int) := by
    have e : -V = ((P : Int) - V % (P : Int)) + (-(V / (P : Int)) - 1) * (P : Int) := by
      rw [Int.sub_mul, Int.neg_mul, Int.one_mul, Int.mul_comm]; omega
    constructor
    · rw [e, Int.add_mul_ediv_right _ _ (by omega), Int.ediv_eq_zero_of_lt (by omega) (by omega)]; omega
    · rw [e, Int.add_mul_emod_self_right, Int.emod_eq_of_lt (by omega) (by omega)]
  unfold rv
  rw [← Int.neg_mul]
  congr 1
  unfold rvQ
  simp only [show ¬ (2 : Int) = 0 by decide, show ¬ (2 : Int) = 1 by decide, if_false, hne.1, hne.2]
  generalize V / (P : Int) = q at *
  generalize V % (P : Int) = r at *
  split <;> split <;> omega

/-- The size of what is cut. -/
theorem cut_size {V : Int} {P K : Nat} (m : Int) (hP : 0 < P) (h : V.natAbs ≤ P * K) : (rv m V P).natAbs ≤ P * K := by
  have e1 : ((P * K : Nat) : Int) % (P : Int) = 0 := by rw [Int.natCast_mul]; exact Int.mul_emod_right _ _
  have e2 : (-((P * K : Nat) : Int)) % (P : Int) = 0 := by rw [Int.neg_emod, if_pos (Int.dvd_of_emod_eq_zero e1)]
  have a := rv_mono m P hP (show V ≤ ((P * K : Nat) : Int) by omega)
  have b := rv_mono m P hP (show -((P * K : Nat) : Int) ≤ V by omega)
  rw [rv_mult hP e1] at a
  rw [rv_mult hP e2] at b
  omega

theorem cut_low {V : Int} {P K : Nat} (m : Int) (hP : 0 < P) (h : P * K ≤ V.natAbs) : P * K ≤ (rv m V P).natAbs := by
  have e1 : ((P * K : Nat) : Int) % (P : Int) = 0 := by rw [Int.natCast_mul]; exact Int.mul_emod_right _ _
  have e2 : (-((P * K : Nat) : Int)) % (P : Int) = 0 := by rw [Int.neg_emod, if_pos (Int.dvd_of_emod_eq_zero e1)]
  by_cases hv : 0 ≤ V
  · have a := rv_mono m P hP (show ((P * K : Nat) : Int) ≤ V by omega)
    rw [rv_mult hP e1] at a
    omega
  · have b := rv_mono m P hP (show V ≤ -((P * K : Nat) : Int) by omega)
    rw [rv_mult hP e2] at b
    omega

theorem cut_blen {L : Nat} {M E V pos : Int} {bits : Nat} (hr : Rp L M E V) (hn : Nr8 M E) (hp : 0 ≤ pos + L) (hm : V % ((2 ^ (pos + L).toNat : Nat) : Int) = 0) (hs : V.natAbs ≤ 2 ^ (pos + L).toNat * 2 ^ bits) (hb : 1 ≤ bits) : blen M.natAbs ≤ bits := by
  rcases (at_iff hr hn hp).2 hm with h | h
  · rw [h]; exact Nat.zero_le _
  · obtain ⟨h1, h2⟩ := hr
    rw [← h2, Int.natAbs_mul, Int.natAbs_pow, show (2 : Int).natAbs = 2 from rfl, show (E + L).toNat = (pos + L).toNat + (E - pos).toNat by omega, Nat.pow_add, ← Nat.mul_assoc, Nat.mul_comm M.natAbs, Nat.mul_assoc] at hs
    have h3 := Nat.le_of_mul_le_mul_left hs (Nat.two_pow_pos _)
    have h4 : M.natAbs ≤ 2 ^ bits := Nat.le_trans (Nat.le_mul_of_pos_right _ (Nat.two_pow_pos _)) h3
    rw [blen_le_iff]
    rcases hn with hn | hn
    · rw [hn.1]; exact Nat.two_pow_pos _
    · have : 2 ^ bits % 2 = 0 := by
        obtain ⟨k, rfl⟩ : ∃ k, bits = k + 1 := ⟨bits - 1, by omega⟩
        rw [Nat.pow_succ]; omega
      omega

/-- Cut over numbers at one scale. -/
theorem ycut8 (b1 : Bool) (a1 : Option Addr) (n1 k1 : Nat) (ex1 : Int) (X : List Nat) (L : Nat) (V1 bits m : Int) (w : World) (hT : Tab w) (hA : Arg w (.slice a1 n1 k1) X) (hx : n1 = X.length) (hf : X.length ≤ 17592186043904) (hX : Rp L (zz b1 (val X)) ex1 V1) (hL : 4611686018427387904 ≤ L) (hE : fitE ex1 = true) (hK : 1 ≤ bits) (hK2 : bits ≤ 1048576) (hM : isM m = true) :
    Calls Tryd.prog 10 #[.agg #[.bool b1, .slice a1 n1 k1, .int .i64 ex1], .int .i64 bits, .int .i64 m] w fun e w' => A8 w e w' L (rv m V1 (2 ^ (cutP (omz (zz b1 (val X))) (oe (zz b1 (val X)) ex1) bits + L).toNat)) := by
  subst hx
  have hr := hX.norm
  have hr1 := hr.1
  have hEr := (fitE_iff ex1).1 hE
  have hge : -1099511627776 ≤ oe (zz b1 (val X)) ex1 := by unfold oe; split <;> omega
  refine (ycut_ok b1 a1 k1 X ex1 bits m w hA hT (by omega) hE hK hM).mono fun e w' h => DRes.a8 h.1 (rnd_rv hr (nr8_of _ _) (by unfold cutP; omega) ((isM_iff m).1 hM)).norm (nr8_of _ _) h.2

/-- What is known of a number that is longer than it may be. -/
theorem cut_facts {L l bits : Nat} {M0 E0 V pos : Int} (hr : Rp L M0 E0 V) (hl : blen M0.natAbs = l) (hb : 1 ≤ bits) (hbl : bits < l) (hpos : pos = E0 + (l : Int) - (bits : Int)) :
    2 ^ (pos + L).toNat * 2 ^ (bits - 1) ≤ V.natAbs ∧ V.natAbs ≤ 2 ^ (pos + L).toNat * 2 ^ bits ∧ 2 ^ (pos + L).toNat ≤ V.natAbs ∧ 2 ^ (pos + L).toNat < 2 ^ ((E0 + L).toNat + l) := by
  have h1 := hr.1
  have hs := hr.small8 (Nat.le_of_eq hl)
  have hlow : 2 ^ ((E0 + L).toNat + (l - 1)) ≤ V.natAbs := by
    apply Classical.byContradiction
    intro hc
    have := hr.blen8 (Nat.lt_of_not_le hc)
    omega
  have e1 : 2 ^ (pos + L).toNat * 2 ^ (bits - 1) = 2 ^ ((E0 + L).toNat + (l - 1)) := by rw [← Nat.pow_add]; congr 1; omega
  have e2 : 2 ^ (pos + L).toNat * 2 ^ bits = 2 ^ ((E0 + L).toNat + l) := by rw [← Nat.pow_add]; congr 1; omega
  refine ⟨by rw [e1]; exact hlow, by rw [e2]; exact Nat.le_of_lt hs, Nat.le_trans (Nat.pow_le_pow_right (by omega) (by omega)) hlow, Nat.pow_lt_pow_right (by omega) (by omega)⟩

/-- What was answered is not too far up, so neither was what was cut. -/
theorem cut_room {L l bits : Nat} {M0 E0 V pos m : Int} (hr : Rp L M0 E0 V) (hl : blen M0.natAbs = l) (hb : 1 ≤ bits) (hbl : bits < l) (hpos : pos = E0 + (l : Int) - (bits : Int)) (hE : -1099511627776 ≤ E0) (ho : Ok8 L (rv m V (2 ^ (pos + L).toNat))) : l ≤ 4000000000000 := by
  obtain ⟨M, E, r, _, hb2, hf⟩ := ho
  have hEr := (fitE_iff E).1 hf
  have h1 := cut_facts hr hl hb hbl hpos
  have h2 := cut_low m (Nat.two_pow_pos _) h1.1
  have h3 := r.small8 hb2
  rw [← Nat.pow_add] at h2
  have h4 := Nat.lt_of_le_of_lt h2 h3
  have h5 := (Nat.pow_lt_pow_iff_right (by omega)).1 h4
  have := hr.1
  have := r.1
  omega

/-- A box with a sum of the document's. -/
def OneT (U : World) (L : Nat) (V : Int) (C : Prop) (s f : Value) (wx : World) : Prop :=
  ∃ (g : Nat) (b : Bool) (a : Option Addr) (n k : Nat) (e' : Int) (ok : Bool), s = .pointer (some ⟨g, 0, none⟩) ∧ f = .bool ok ∧ wx.heap[g]? = some (.cells #[.bool b, .slice a n k, .int .i64 e'] 36) ∧ (ok = true → T8 wx b a n k e' L V) ∧ (ok = false → C) ∧ Below U.heap.size U wx

theorem bl_allocT {W0 W : World} (h : Below W0.heap.size W0 W) (o : Obj) : Below W0.heap.size W0 (W.alloc o) := h.alloc h.size _

theorem bl_drewT {W0 W : World} (h : Below W0.heap.size W0 W) : Below W0.heap.size W0 W.drew := h.drew

theorem made1dT {W t : World} {o : Obj} (h : Below (W.alloc o).drew.heap.size (W.alloc o).drew t) : t.heap[W.heap.size]? = some o := block_upW h (heap_alloc_new W o)

theorem made1T {W t : World} {o : Obj} (h : Below (W.alloc o).heap.size (W.alloc o) t) : t.heap[W.heap.size]? = some o := block_upW h (heap_alloc_new W o)

theorem one_t {U t : World} {L : Nat} {V : Int} {C : Prop} {b : Bool} {a : Option Addr} {n k : Nat} {e' : Int} {ok : Bool} (hs : (ok = true → T8 t b a n k e' L V) ∧ (ok = false → C)) (g : Below U.heap.size U t) : OneT U L V C (.pointer (some ⟨t.heap.size, 0, none⟩)) (.bool ok) (t.alloc (.cells #[.bool b, .slice a n k, .int .i64 e'] 36)) :=
  ⟨_, b, a, n, k, e', ok, rfl, rfl, heap_alloc_new _ _, fun h => (hs.1 h).below (below_one6 _ _), hs.2, bl_allocT g _⟩

theorem one_ts {U t : World} {L : Nat} {V : Int} {C : Prop} {b : Bool} {a : Option Addr} {n k : Nat} {e' : Int} {ok : Bool} {gg : Nat} (hq : t.heap[gg]? = some (.cells #[.bool false, .slice none 0 0, .int .i64 0] 36)) (hge : U.heap.size ≤ gg) (hs : (ok = true → T8 t b a n k e' L V) ∧ (ok = false → C)) (g : Below U.heap.size U t) : OneT U L V C (.pointer (some ⟨gg, 0, none⟩)) (.bool ok) (((t.setCell ⟨gg, 0, none⟩ (.bool b)).setCell ⟨gg, 1, none⟩ (.slice a n k)).setCell ⟨gg, 2, none⟩ (.int .i64 e')) :=
  ⟨_, b, a, n, k, e', ok, rfl, rfl, tri8_all hq _ _ _, fun h => (hs.1 h).tri8 hq b a n k (.int .i64 e'), hs.2, below_tri8 g hge _ _ _⟩

end Go.Proofs.YtemajaclpkgpbaaDoor
