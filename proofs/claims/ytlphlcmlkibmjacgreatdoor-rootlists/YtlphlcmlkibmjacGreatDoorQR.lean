/- Squares' rests: plain facts. -/
import Derived.Test.YtlphlcmlkibmjacGreatDoorQA
import Derived.Test.YtlphlcmlkibmjacGreatDoorQM
import Derived.Test.YtlphlcmlkibmjacGreatDoorQJ
import Derived.Test.YtlphlcmlkibmjacGreatDoorQB
import Derived.Handy
import Derived.Test.YtlphlcmlkibmjacGreatDoorQG
import Derived.Test.YtlphlcmlkibmjacGreatDoorQK
import Derived.Test.YtlphlcmlkibmjacGreatDoorChecked
import Derived.Deep.WholeRow
import Derived.WalkKit
namespace Go.Proofs.YtlphlcmlkibmjacGreatDoor
namespace Lm

/-- Does one of the first k squares leave the rest i? -/
def sqB (m : Nat) : Nat → Nat → Bool
  | 0, _ => false
  | k + 1, i => sqB m k i || (k * k % m == i)

theorem sqB_hit (m k i x : Nat) (hx : x < k) (h : x * x % m = i) : sqB m k i = true := by
  induction k with
  | zero => omega
  | succ k ih =>
    show (sqB m k i || (k * k % m == i)) = true
    by_cases e : x = k
    · subst e; simp [h]
    · rw [ih (by omega)]; rfl

theorem sqB_miss (m k i : Nat) (h : ∀ x, x < k → x * x % m ≠ i) : sqB m k i = false := by
  induction k with
  | zero => rfl
  | succ k ih =>
    show (sqB m k i || (k * k % m == i)) = false
    rw [ih fun x hx => h x (by omega)]
    have := h k (by omega)
    simp [this]

end Lm
end Go.Proofs.YtlphlcmlkibmjacGreatDoor

/- Package roots: restOf, gatherSquares, Residue. -/
namespace Go.Proofs.YtlphlcmlkibmjacGreatDoor
open Go.RowKit
open Lm
attribute [local go_sem ↓] Go.wp_at_zero Go.wp_at_succ

theorem restOf_any (va : Value) (X : List Nat) (m : Nat) (w : World) (hA : Arg w va X) (hT : Tab w) (hl : X.length ≤ 17592186044416) (hm0 : 0 < m) (hm : m ≤ 9223372036854775807) :
    Calls Tryz.prog 51 #[va, .int .i64 m] w fun e w' => e = .returned (.int .i64 ((val X % m : Nat) : Int)) ∧ Below w.heap.size w w' := by
  have HF := from_any m w (by omega)
  have wm : IntKind.u64.wrap (m : Int) = (m : Int) := by rw [IntKind.wrap_u64]; omega
  have HA := hide hA
  have HT := hide hT
  have hr : val X % m < m := Nat.mod_lt _ hm0
  obtain ⟨r, hrr⟩ : ∃ r, val X % m = r := ⟨_, rfl⟩
  have HR := hide hrr
  rw [hrr] at hr ⊢
  clear hA hT hrr
  go_enter Tryz.func51, Tryz.ntmps51
  go_wp2_with fail
  refine HF.mono ?_
  rintro e w1 ⟨⟨v1, rfl, A1⟩, hb1⟩
  have ev : val (tr [m]) = m := by rw [val_tr]; simp [val]
  have l1 : (tr [m]).length ≤ 1 := Nat.le_trans (tr_length_le _) (by simp)
  have HD := dRest_any va v1 X (tr [m]) w1 (HA.out.below hb1) (A1.arg (by omega)) (HT.out.below hb1) hl (by omega) (by rw [ev]; omega)
  rw [ev, HR.out] at HD
  have HB1 := hide hb1
  clear HF A1 hb1 ev l1
  go_wp2_with fail
  refine HD.mono ?_
  rintro e w2 ⟨hb2, hres⟩
  obtain ⟨v2, rfl, N2⟩ := hres.fits (by have := (blen_le_iff r 64).2 (by omega); omega)
  obtain ⟨rs, A2, e2, t2, l2⟩ := N2.arg
  have hs1 : (tr rs).length ≤ 1 := by
    have := tr_len_lt rs 1 (by rw [e2]; omega)
    exact this
  have HS := small_any v2 rs w2 A2
  rw [if_pos hs1, decide_eq_true hs1] at HS
  have hg : (tr rs).getD 0 0 = r := by
    rw [← e2, ← val_tr rs]
    match h : tr rs, hs1 with
    | [], _ => simp [val]
    | [a], _ => simp [val]
    | a :: b :: c, h1 => simp at h1
  rw [hg] at HS
  have HB2 := hide (HB1.out.trans (hb2.mono HB1.out.size))
  clear HD hb2 hres N2 A2 e2 t2 l2 hs1 hg
  go_wp2_with fail
  refine HS.mono ?_
  rintro e wn ⟨rfl, hw⟩; rw [hw]; clear hw wn HS
  have hrl : r ≤ 9223372036854775807 := by omega
  go_wp2
  go_ret
  exact ⟨rfl, HB2.out⟩

/-- A block of flags. -/
def FlagsAt (w : World) (g L : Nat) (f : Nat → Bool) : Prop := ∃ (arr : Array Value) (t : TypeId), w.heap[g]? = some (.cells arr t (0, 0)) ∧ arr.size = L ∧ ∀ i, i < L → arr[i]? = some (.bool (f i))

theorem FlagsAt.cell {w : World} {g L : Nat} {f : Nat → Bool} (h : FlagsAt w g L f) (i : Nat) (hi : i < L) : w.cell? ⟨g, i, none⟩ = some (.bool (f i)) := by
  obtain ⟨arr, t, h1, h2, h3⟩ := h
  have := h3 i hi
  simp [World.cell?, h1, this]

theorem FlagsAt.free {w : World} {g L : Nat} {f : Nat → Bool} (h : FlagsAt w g L f) (i : Nat) : w.frozen? ⟨g, i, none⟩ = false := by
  obtain ⟨arr, t, h1, h2, h3⟩ := h
  simp [World.frozen?, h1]

theorem FlagsAt.set {w : World} {g L : Nat} {f f' : Nat → Bool} (h : FlagsAt w g L f) (k : Nat) (hk : k < L) (b : Bool) (hf : ∀ i, i < L → f' i = if i = k then b else f i) : FlagsAt (w.setCell ⟨g, k, none⟩ (.bool b)) g L f' := by
  obtain ⟨arr, t, h1, h2, h3⟩ := h
  refine ⟨arr.setIfInBounds k (.bool b), t, ?_, by simp [h2], fun i hi => ?_⟩
  · have hlt : g < w.heap.size := lt_of_block h1
    have h' : w.heap[g] = .cells arr t (0, 0) := by simpa [Array.getElem?_eq_getElem hlt] using h1
    show (w.heap.modify g _)[g]? = _
    rw [Array.getElem?_eq_getElem (by simpa using hlt), Array.getElem_modify_self, h']
    rfl
  · rw [hf i hi]
    by_cases e : i = k
    · subst e
      rw [if_pos rfl]
      simp [h2, hi]
    · rw [if_neg e, ← h3 i hi]
      rw [Array.getElem?_setIfInBounds]
      rw [if_neg (by omega)]

theorem FlagsAt.below {w w' : World} {g L : Nat} {f : Nat → Bool} (h : FlagsAt w g L f) (hb : Below w.heap.size w w') : FlagsAt w' g L f := by
  obtain ⟨arr, t, h1, h2, h3⟩ := h
  exact ⟨arr, t, by rw [hb.block g (lt_of_block h1)]; exact h1, h2, h3⟩

set_option maxHeartbeats 1000000 in
theorem gather_any (g L m : Nat) (w : World) (hF : FlagsAt w g L (fun _ => false)) (hm0 : 0 < m) (hmL : m ≤ L) (hL : L ≤ 65536) :
    Calls Tryz.prog 50 #[.slice (some ⟨g, 0, none⟩) m L] w fun e w' => e = .returned (.tuple #[]) ∧ FlagsAt w' g L (sqB m m) ∧ Below g w w' ∧ w'.heap.size = w.heap.size := by
  have HF := hide hF
  clear hF
  go_enter Tryz.func50, Tryz.ntmps50
  go_wp2
  go_loopw [7] (fun i wr => ∃ k : Nat, i = .int .i64 (k : Int) ∧ k ≤ m ∧ FlagsAt wr g L (sqB m k) ∧ Below g w wr ∧ wr.heap.size = w.heap.size) (fun i _ => (65537 - intOf i).toNat)
  case atStart => exact ⟨0, rfl, Nat.zero_le _, HF.out, Below.refl _ _, rfl⟩
  case round =>
    obtain ⟨k, rfl, hk, hfl, hbel, hsz⟩ := hrel
    have HFL := hide hfl
    have HB := hide (And.intro hbel hsz)
    clear HF hbel hsz
    by_cases hkm : k < m
    · have i1 : (k : Int) < (m : Int) := by omega
      have hz : ((m : Int) == 0) = false := by rw [beq_eq_false_iff_ne]; omega
      obtain ⟨p, hp, ep⟩ : ∃ p : Nat, k * k = p ∧ (k : Int) * (k : Int) = (p : Int) := ⟨k * k, rfl, by rw [Int.natCast_mul]⟩
      have hpl : p ≤ 4294967296 := by
        rw [← hp]
        exact Nat.le_trans (Nat.mul_le_mul (show k ≤ 65536 by omega) (show k ≤ 65536 by omega)) (by omega)
      obtain ⟨q, hq, eq⟩ : ∃ q : Nat, p % m = q ∧ (p : Int) % (m : Int) = (q : Int) := ⟨p % m, rfl, by rw [Int.natCast_emod]⟩
      have hql : q < m := by rw [← hq]; exact Nat.mod_lt _ hm0
      have q0 : (0 : Int) ≤ (q : Int) := by omega
      have q1 : (q : Int) < (m : Int) := by omega
      have tq : (p : Int).tmod (m : Int) = (q : Int) := by rw [Int.tmod_eq_emod_of_nonneg (by omega)]; exact eq
      have hc := hfl.cell q (by omega)
      have hfr := hfl.free q
      have HN := hide (hfl.set q (by omega) true (f' := sqB m (k + 1)) (fun i hi => by
        show (sqB m k i || (k * k % m == i)) = _
        rw [hp, hq]
        by_cases e : i = q
        · subst e; simp
        · rw [if_neg e]
          have : (q == i) = false := by rw [beq_eq_false_iff_ne]; omega
          rw [this, Bool.or_false]))
      clear hfl hp hq
      go_wp2
      go_roundw
      case rel =>
        refine ⟨k + 1, by go_num, hkm, HN.out, HB.out.1.setCell (p := ⟨g, q, none⟩) (Nat.le_refl _) _, ?_⟩
        show (wr.heap.modify _ _).size = _
        rw [Array.size_modify]
        exact HB.out.2
      case measure => simp [intOf]; omega
    · have i1 : ¬ ((k : Int) < (m : Int)) := by omega
      have ek : k = m := by omega
      rw [ek] at HFL
      clear hfl ek
      go_wp2
      go_end0
      exact ⟨rfl, HFL.out, HB.out.1, HB.out.2⟩

theorem residue_no (va : Value) (m : Int) (w : World) (h : m < 1 ∨ 65536 < m) :
    Calls Tryz.prog 20 #[va, .int .i64 m] w fun e w' => e = .returned (.tuple #[.bool false, .int .i64 1]) ∧ w' = w := by
  by_cases h0 : m < 1
  · clear h
    go_enter Tryz.func20, Tryz.ntmps20
    go_wp2
    go_returns
    exact ⟨rfl, rfl⟩
  · have h1 : 65536 < m := by omega
    clear h
    go_enter Tryz.func20, Tryz.ntmps20
    go_wp2
    go_returns
    exact ⟨rfl, rfl⟩

set_option maxRecDepth 20000 in
set_option maxHeartbeats 1000000 in
theorem residue_of (hZ : ∃ (Z : Array Value), (∀ w, (zeroValue 80).run Tryz.prog w = .ok (.agg Z) w) ∧ Z.size = 65536 ∧ ∀ i, i < 65536 → Z[i]? = some (.bool false)) (va : Value) (X : List Nat) (m : Nat) (w : World) (hA : Arg w va X) (hT : Tab w) (hl : X.length ≤ 17592186044416) (hm0 : 0 < m) (hm : m ≤ 65536) :
    Calls Tryz.prog 20 #[va, .int .i64 m] w fun e w' => e = .returned (.tuple #[.bool (sqB m m (val X % m)), .int .i64 0]) ∧ Below w.heap.size w w' := by
  obtain ⟨Z, hz, hs, hc⟩ := hZ
  have HZ := hide (And.intro hs hc)
  clear hs hc
  have m1 : ¬ ((m : Int) < 1) := by omega
  have m3 : ¬ ((65536 : Int) < (m : Int)) := by omega
  have m2 : decide ((65536 : Int) < (m : Int)) = false := decide_eq_false m3
  have HA := hide hA
  have HT := hide hT
  clear hA hT
  go_enter Tryz.func20, Tryz.ntmps20
  have hb0 : Below w.heap.size w (w.alloc (.cells Z 80)) := (Below.refl _ _).alloc (Nat.le_refl _) _
  have HG := gather_any w.heap.size 65536 m (w.alloc (.cells Z 80)) ⟨Z, _, heap_alloc_new .., HZ.out.1, HZ.out.2⟩ hm0 hm (Nat.le_refl _)
  have HB0 := hide hb0
  clear hb0
  go_wp2_with fail
  refine HG.mono ?_
  rintro e w2 ⟨rfl, hfl, hbel, _⟩
  have HB2 := hide (HB0.out.trans hbel)
  have HR := restOf_any va X m w2 (HA.out.below HB2.out) (HT.out.below HB2.out) hl hm0 (by omega)
  obtain ⟨r, hr⟩ : ∃ r, val X % m = r := ⟨_, rfl⟩
  have hrl : r < m := by rw [← hr]; exact Nat.mod_lt _ hm0
  rw [hr] at HR
  have HRR := hide hr
  have HFL := hide hfl
  have r0 : (0 : Int) ≤ (r : Int) := by omega
  have r1 : (r : Int) < 65536 := by omega
  have r2 : r < 65536 := by omega
  clear HG hfl hbel hr hz
  go_wp2_with fail
  refine HR.mono ?_
  rintro e w3 ⟨rfl, hb3⟩
  have hc3 := (HFL.out.below hb3).cell r r2
  have HB3 := hide (HB2.out.trans (hb3.mono HB2.out.size))
  clear HR hb3
  go_wp2
  go_returns
  exact ⟨by rw [HRR.out]; rfl, HB3.out⟩

end Go.Proofs.YtlphlcmlkibmjacGreatDoor

/- The document's number of an int. -/
namespace Go.Proofs.YtlphlcmlkibmjacGreatDoor
open Go.RowKit
open Lm
attribute [local go_sem ↓] Go.wp_at_zero Go.wp_at_succ

theorem rint_all (c : Nat) (w : World) (hc : c < 9223372036854775808) : Calls Tryz.prog 34 #[.int .i64 c] w fun e w' => (∃ v, e = .returned v ∧ Num w' v c) ∧ Below w.heap.size w w' := by
  have hA := Arg.lits w [c] #[.int .u64 (c : Int)] 1 rfl rfl (by intro z hz; simp at hz; omega) (by simp)
  have hb : Below w.heap.size w (w.alloc (.cells #[.int .u64 (c : Int)] 54)) := (Below.refl _ _).alloc (Nat.le_refl _) _
  have HO := of_any _ [c] _ hA (by simp)
  rw [show val [c] = c by simp [val]] at HO
  have HB := hide hb
  clear hA hb
  go_enter Tryz.func34, Tryz.ntmps34
  go_wp2_with fail
  refine HO.mono ?_
  rintro e w2 ⟨⟨v, rfl, N⟩, hb2⟩
  have HX := hide (And.intro N (HB.out.trans (hb2.mono HB.out.size)))
  clear N hb2 HO
  go_wp2
  go_ret
  exact ⟨⟨v, rfl, HX.out.1⟩, HX.out.2⟩

end Go.Proofs.YtlphlcmlkibmjacGreatDoor

/- The zero value of an array of 65536 flags. -/
namespace Go.Proofs.YtlphlcmlkibmjacGreatDoor
open Go.RowKit

def AllF (l : List Value) (n : Nat) : Prop := l.length = n ∧ ∀ v, v ∈ l → v = .bool false

theorem AllF.app {A B : List Value} {n m : Nat} (h : AllF A n) (k : AllF B m) : AllF (A.append B) (n + m) := by
  refine ⟨by show (A ++ B).length = _; rw [List.length_append, h.1, k.1], fun v hv => ?_⟩
  rcases List.mem_append.1 (show v ∈ A ++ B from hv) with h1 | h1
  · exact h.2 v h1
  · exact k.2 v h1

theorem AllF.cast {A : List Value} {n m : Nat} (h : AllF A n) (e : n = m) : AllF A m := e ▸ h

theorem AllF.nil : AllF [] 0 := ⟨rfl, fun v hv => by cases hv⟩

theorem AllF.cons {A : List Value} {n : Nat} (h : AllF A n) : AllF (.bool false :: A) (n + 1) :=
  ⟨by simp [h.1], fun v hv => by rcases List.mem_cons.1 hv with h1 | h1; exact h1; exact h.2 v h1⟩

set_option maxRecDepth 1000000 in
set_option maxHeartbeats 0 in
theorem zeroFlags : ∃ (L : List Value), Tryz.t80.zero = some (.agg L.toArray) ∧ AllF L 65536 := by
  unfold Tryz.t80
  exact ⟨_, rfl, AllF.cast (by repeat (first | exact AllF.nil | apply AllF.cons | apply AllF.app)) (by rfl)⟩

theorem infoFlags : (Tryz.prog.info? 80) = some Tryz.t80 := by kernel_rfl

theorem zero_flags : ∃ (Z : Array Value), (∀ w, (zeroValue 80).run Tryz.prog w = .ok (.agg Z) w) ∧ Z.size = 65536 ∧ ∀ i, i < 65536 → Z[i]? = some (.bool false) := by
  obtain ⟨L, h1, h2⟩ := zeroFlags
  refine ⟨L.toArray, fun w => by simp [zeroValue, typeInfo, infoFlags, h1], by simpa using h2.1, fun i hi => ?_⟩
  have hl : i < L.length := by rw [h2.1]; exact hi
  simp only [List.getElem?_toArray, List.getElem?_eq_getElem hl]
  rw [h2.2 _ (List.getElem_mem hl)]

end Go.Proofs.YtlphlcmlkibmjacGreatDoor
