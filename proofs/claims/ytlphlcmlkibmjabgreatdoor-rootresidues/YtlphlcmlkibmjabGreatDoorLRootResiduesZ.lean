/- The walk of the law RootResidues. -/
import Derived.Test.YtlphlcmlkibmjabGreatDoorQR
import Derived.Test.YtlphlcmlkibmjabGreatDoorRootBZ
import Derived.Test.YtlphlcmlkibmjabGreatDoorQH
namespace Go.Proofs.YtlphlcmlkibmjabGreatDoor
open Go.RowKit
open Lm

/-- Both tell the same of a number and a modulus. -/
theorem residue_both (m : Int) : ∃ (c : Int) (f : Nat → Bool), (∀ (va : Value) (X : List Nat) (w : World), Arg w va X → Tab w → X.length ≤ 17592186044416 → Calls Tryz.prog 22 #[va, .int .i64 m] w fun e w' => e = .returned (.tuple #[.bool (f (val X)), .int .i64 c]) ∧ Below w.heap.size w w') ∧
    (∀ (v : Value) (x : Nat) (w : World), Num w v x → blen x ≤ 1125899906809856 → Calls Tryz.prog 21 #[v, .int .i64 m] w fun e w' => e = .returned (.tuple #[.bool (f x), .int .i64 c]) ∧ Below w.heap.size w w') := by
  by_cases h : m < 1 ∨ 65536 < m
  · refine ⟨1, fun _ => false, fun va X w _ _ _ => (residue_no va m w h).mono ?_, fun v x w _ _ => (rresidue_no v m w h).mono ?_⟩
    · rintro e w' ⟨rfl, rfl⟩; exact ⟨rfl, Below.refl _ _⟩
    · rintro e w' ⟨rfl, rfl⟩; exact ⟨rfl, Below.refl _ _⟩
  · obtain ⟨n, rfl⟩ : ∃ n : Nat, m = (n : Int) := ⟨m.toNat, by omega⟩
    exact ⟨0, fun x => sqB n n (x % n), fun va X w h1 h2 h3 => residue_of zero_flags va X n w h1 h2 h3 (by omega) (by omega), fun v x w h1 h2 => rresidue_any v x n w h1 h2 (by omega) (by omega)⟩

set_option maxRecDepth 100000 in
set_option maxHeartbeats 1000000 in
theorem rootResidues_walk (v0 : Value) (z0 : List Nat) (m : Int) (w : World) (hT : Tab w) (A0 : Arg w v0 z0) (s0 : z0.length ≤ 17592186043904) (_ : -9223372036854775808 ≤ m) (_ : m ≤ 9223372036854775807) :
    Calls Tryz.prog 6 #[v0, .int .i64 m] w fun e w' => e = .returned (.bool true) ∧ Below w.heap.size w w' := by
  have H : Hid (Below w.heap.size w w) := Below.refl _ _
  have bx := A0.bits s0
  have HT := hide hT
  obtain ⟨c, f, hP, hQ⟩ := residue_both m
  have HP := hide hP
  have HQ := hide hQ
  clear hT hP hQ
  go_enter Tryz.func6, Tryz.ntmps6
  go_wp2_with fail
  refine (lend_ok _ _ _ A0 (by omega)).mono ?_
  rintro e w0 ⟨⟨vw, vp, rfl, Lw, Ap⟩, hb⟩
  replace H := hid_below H hb; replace A0 := A0.below hb; clear hb
  have HO := of_any _ _ _ A0 (by omega)
  go_wp2_with fail
  refine HO.mono ?_
  rintro e w1 ⟨⟨vx, rfl, Nx⟩, hb⟩
  replace H := hid_below H hb; replace A0 := A0.below hb; replace Lw := Lw.below hb; replace Ap := Ap.below hb; clear hb HO
  have F1 := HQ.out vx _ w1 Nx bx
  clear Nx
  go_wp2_with fail
  refine F1.mono ?_
  rintro e w2 ⟨rfl, hb⟩
  replace H := hid_below H hb; replace A0 := A0.below hb; replace Lw := Lw.below hb; replace Ap := Ap.below hb; clear hb F1
  have F1 := HP.out vp z0 w2 Ap (HT.out.below H.out) (by omega)
  go_wp2_with fail
  refine F1.mono ?_
  rintro e w3 ⟨rfl, hb⟩
  replace H := hid_below H hb; replace A0 := A0.below hb; replace Lw := Lw.below hb; clear hb F1 Ap
  generalize f (val z0) = b at *
  have hbb : (b == b) = true := by cases b <;> rfl
  have hcc : (c == c) = true := by simp
  go_wp2_with fail
  refine (num4_any c w3).mono ?_
  rintro e wn ⟨rfl, hw⟩; rw [hw]; clear hw wn
  go_wp2_with fail
  refine (kept_ok _ _ _ _ Lw A0 (by omega)).mono ?_
  rintro e wn ⟨rfl, hw⟩; rw [hw]; clear hw wn
  have HA := awake4_any w3
  clear A0 Lw
  go_wp2_with fail
  refine HA.mono ?_
  rintro e w4 ⟨rfl, hb⟩
  replace H := hid_below H hb
  clear hb HA
  go_wp2
  go_ret
  exact ⟨rfl, H.out⟩

end Go.Proofs.YtlphlcmlkibmjabGreatDoor
