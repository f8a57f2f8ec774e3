/- Squares' rests: plain facts. -/
import Derived.Test.YteecnckfkcmefaaGreatDoorQA
import Derived.Test.YteecnckfkcmefaaGreatDoorQM
import Derived.Test.YteecnckfkcmefaaGreatDoorQJ
import Derived.Test.YteecnckfkcmefaaGreatDoorQB
import Derived.Handy
namespace Go.Proofs.YteecnckfkcmefaaGreatDoor
namespace Lm

/-- Does one of the first k squares leave the rest i? -/
def sqB (m : Nat) : Nat → Nat → Bool
  | 0, _ => false
  | k + 1, i => sqB m k i || (k * k % m == i)

theorem sqB_hit (m k i x : Nat) (hx : x < k) (h : x * x % m = i) : sqB m k i = true := by
  induction k with
  | zero => omega
  | succ k ih =>
    show (sqB m k i || (k * k % m == i)) = true
    by_cases e : x = k
    · subst e; simp [h]
    · rw [ih (by omega)]; rfl

theorem sqB_miss (m k i : Nat) (h : ∀ x, x < k → x * x % m ≠ i) : sqB m k i = false := by
  induction k with
  | zero => rfl
  | succ k ih =>
    show (sqB m k i || (k * k % m == i)) = false
    rw [ih fun x hx => h x (by omega)]
    have := h k (by omega)
    simp [this]

end Lm
end Go.Proofs.YteecnckfkcmefaaGreatDoor

/- Package roots: restOf, gatherSquares, Residue. -/
namespace Go.Proofs.YteecnckfkcmefaaGreatDoor
open Go.RowKit
open Lm
attribute [local go_sem ↓] Go.wp_at_zero Go.wp_at_succ

theorem restOf_any (va : Value) (X : List Nat) (m : Nat) (w : World) (hA : Arg w va X) (hT : Tab w) (hl : X.length ≤ 17592186044416) (hm0 : 0 < m) (hm : m ≤ 9223372036854775807) :
    Calls Tryz.prog 92 #[va, .int .i64 m] w fun e w' => e = .returned (.int .i64 ((val X % m : Nat) : Int)) ∧ Below w.heap.size w w' := by
  have HF := from_any m w (by omega)
  have wm : IntKind.u64.wrap (m : Int) = (m : Int) := by rw [IntKind.wrap_u64]; omega
  have HA := hide hA
  have HT := hide hT
  have hr : val X % m < m := Nat.mod_lt _ hm0
  obtain ⟨r, hrr⟩ : ∃ r, val X % m = r := ⟨_, rfl⟩
  have HR := hide hrr
  rw [hrr] at hr ⊢
  clear hA hT hrr
  go_enter Tryz.func92, Tryz.ntmps92
  go_wp2_with fail
  refine HF.mono ?_
  rintro e w1 ⟨⟨v1, rfl, A1⟩, hb1⟩
  have ev : val (tr [m]) = m := by rw [val_tr]; simp [val]
  have l1 : (tr [m]).length ≤ 1 := Nat.le_trans (tr_length_le _) (by simp)
  have HD := dRest_any va v1 X (tr [m]) w1 (HA.out.below hb1) (A1.arg (by omega)) (HT.out.below hb1) hl (by omega) (by rw [ev]; omega)
  rw [ev, HR.out] at HD
  have HB1 := hide hb1
  clear HF A1 hb1 ev l1
  go_wp2_with fail
  refine HD.mono ?_
  rintro e w2 ⟨hb2, hres⟩
  obtain ⟨v2, rfl, N2⟩ := hres.fits (by have := (blen_le_iff r 64).2 (by omega); omega)
  obtain ⟨rs, A2, e2, t2, l2⟩ := N2.arg
  have hs1 : (tr rs).length ≤ 1 := by
    have := tr_len_lt rs 1 (by rw [e2]; omega)
    exact this
  have HS := small_any v2 rs w2 A2
  rw [if_pos hs1, decide_eq_true hs1] at HS
  have hg : (tr rs).getD 0 0 = r := by
    rw [← e2, ← val_tr rs]
    match h : tr rs, hs1 with
    | [], _ => simp [val]
    | [a], _ => simp [val]
    | a :: b :: c, h1 => simp at h1
  rw [hg] at HS
  have HB2 := hide (HB1.out.trans (hb2.mono HB1.out.size))
  clear HD hb2 hres N2 A2 e2 t2 l2 hs1 hg
  go_wp2_with fail
  refine HS.mono ?_
  rintro e wn ⟨rfl, hw⟩; rw [hw]; clear hw wn HS
  have hrl : r ≤ 9223372036854775807 := by omega
  go_wp2
  go_ret
  exact ⟨rfl, HB2.out⟩

/-- A block of flags. -/
def FlagsAt (w : World) (g L : Nat) (f : Nat → Bool) : Prop := ∃ (arr : Array Value) (t : TypeId), w.heap[g]? = some (.cells arr t (0, 0)) ∧ arr.size = L ∧ ∀ i, i < L → arr[i]? = some (.bool (f i))

theorem FlagsAt.cell {w : World} {g L : Nat} {f : Nat → Bool} (h : FlagsAt w g L f) (i : Nat) (hi : i < L) : w.cell? ⟨g, i, none⟩ = some (.bool (f i)) := by
  obtain ⟨arr, t, h1, h2, h3⟩ := h
  have := h3 i hi
  simp [World.cell?, h1, this]

theorem FlagsAt.free {w : World} {g L : Nat} {f : Nat → Bool} (h : FlagsAt w g L f) (i : Nat) : w.frozen? ⟨g, i, none⟩ = false := by
  obtain ⟨arr, t, h1, h2, h3⟩ := h
  simp [World.frozen?, h1]

theorem FlagsAt.set {w : World} {g L : Nat} {f f' : Nat → Bool} (h : FlagsAt w g L f) (k : Nat) (hk : k < L) (b : Bool) (hf : ∀ i, i < L → f' i = if i = k then b else f i) : FlagsAt (w.setCell ⟨g, k, none⟩ (.bool b)) g L f' := by
  obtain ⟨arr, t, h1, h2, h3⟩ := h
  refine ⟨arr.setIfInBounds k (.bool b), t, ?_, by simp [h2], fun i hi => ?_⟩
  · have hlt : g < w.heap.size := lt_of_block h1
    have h' : w.heap[g] = .cells arr t (0, 0) := by simpa [Array.getElem?_eq_getElem hlt] using h1
    show (w.heap.modify g _)[g]? = _
    rw [Array.getElem?_eq_getElem (by simpa using hlt), Array.getElem_modify_self, h']
    rfl
  · rw [hf i hi]
    by_cases e : i = k
    · subst e
      rw [if_pos rfl]
      simp [h2, hi]
    · rw [if_neg e, ← h3 i hi]
      rw [Array.getElem?_setIfInBounds]
      rw [if_neg (by omega)]

theorem FlagsAt.below {w w' : World} {g L : Nat} {f : Nat → Bool} (h : FlagsAt w g L f) (hb : Below w.heap.size w w') : FlagsAt w' g L f := by
  obtain ⟨arr, t, h1, h2, h3⟩ := h
  exact ⟨arr, t, by rw [hb.block g (lt_of_block h1)]; exact h1, h2, h3⟩

set_option maxHeartbeats 1000000 in
theorem gather_any (g L m : Nat) (w : World) (hF : FlagsAt w g L (fun _ => false)) (hm0 : 0 < m) (hmL : m ≤ L) (hL : L ≤ 65536) :
    Calls Tryz.prog 93 #[.slice (some ⟨g, 0, none⟩) m L] w fun e w' => e = .returned (.tuple #[]) ∧ FlagsAt w' g L (sqB m m) ∧ Below g w w' ∧ w'.heap.size = w.heap.size := by
  have HF := hide hF
  clear hF
  go_enter Tryz.func93, Tryz.ntmps93
  go_wp2
  go_loopw [7] (fun i wr => ∃ k : Nat, i = .int .i64 (k : Int) ∧ k ≤ m ∧ FlagsAt wr g L (sqB m k) ∧ Below g w wr ∧ wr.heap.size = w.heap.size) (fun i _ => (65537 - intOf i).toNat)
  case atStart => exact ⟨0, rfl, Nat.zero_le _, HF.out, Below.refl _ _, rfl⟩
  case round =>
    obtain ⟨k, rfl, hk, hfl, hbel, hsz⟩ := hrel
    have HFL := hide hfl
    have HB := hide (And.intro hbel hsz)
    clear HF hbel hsz
    by_cases hkm : k < m
    · have i1 : (k : Int) < (m : Int) := by omega
      have hz : ((m : Int) == 0) = false := by rw [beq_eq_false_iff_ne]; omega
      obtain ⟨p, hp, ep⟩ : ∃ p : Nat, k * k = p ∧ (k : Int) * (k : Int) = (p : Int) := ⟨k * k, rfl, by rw [Int.natCast_mul]⟩
      have hpl : p ≤ 4294967296 := by
        rw [← hp]
        exact Nat.le_trans (Nat.mul_le_mul (show k ≤ 65536 by omega) (show k ≤ 65536 by omega)) (by omega)
      obtain ⟨q, hq, eq⟩ : ∃ q : Nat, p % m = q ∧ (p : Int) % (m : Int) = (q : Int) := ⟨p % m, rfl, by rw [Int.natCast_emod]⟩
      have hql : q < m := by rw [← hq]; exact Nat.mod_lt _ hm0
      have q0 : (0 : Int) ≤ (q : Int) := by omega
      have q1 : (q : Int) < (m : Int) := by omega
      have tq : (p : Int).tmod (m : Int) = (q : Int) := by rw [Int.tmod_eq_emod_of_nonneg (by omega)]; exact eq
      have hc := hfl.cell q (by omega)
      have hfr := hfl.free q
      have HN := hide (hfl.set q (by omega) true (f' := sqB m (k + 1)) (fun i hi => by
        show (sqB m k i || (k * k % m == i)) = _
        rw [hp, hq]
        by_cases e : i = q
        · subst e; simp
        · rw [if_neg e]
          have : (q == i) = false := by rw [beq_eq_false_iff_ne]; omega
          rw [this, Bool.or_false]))
      clear hfl hp hq
      go_wp2
      go_roundw
      case rel =>
        refine ⟨k + 1, by go_num, hkm, HN.out, HB.out.1.setCell (p := ⟨g, q, none⟩) (Nat.le_refl _) _, ?_⟩
        show (wr.heap.modify _ _).size = _
        rw [Array.size_modify]
        exact HB.out.2
      case measure => simp [intOf]; omega
    · have i1 : ¬ ((k : Int) < (m : Int)) := by omega
      have ek : k = m := by omega
      rw [ek] at HFL
      clear hfl ek
      go_wp2
      go_end0
      exact ⟨rfl, HFL.out, HB.out.1, HB.out.2⟩

end Go.Proofs.YteecnckfkcmefaaGreatDoor
