/- The walk of the law NatOrders. -/
import Derived.Test.YthcdjlhhiheclabLives
namespace Go.Proofs.Ythcdjlhhiheclab
open Go.RowKit
open Lm

theorem hid_same {B : Nat} {w a b : World} (h : Hid (Below B w a)) (hs : Same a b) : Hid (Below B w b) := h.out.trans (hs.below _)
theorem hid_below {w a b : World} (h : Hid (Below w.heap.size w a)) (hb : Below a.heap.size a b) : Hid (Below w.heap.size w b) := h.out.trans (hb.mono h.out.size)

theorem sub_lt (v1 v2 : Value) (zs ys : List Nat) (w : World) (h1 : Arg w v1 zs) (h2 : Arg w v2 ys) (f1 : zs.length ≤ 35184372088831) (h : val zs < val ys) :
    Calls Try.prog 9 #[v1, v2] w fun e w' => e = .returned (.tuple #[.slice none 0 0, .int .i64 10]) ∧ Below w.heap.size w w' := by
  refine (sub_any v1 v2 zs ys w h1 h2 f1).mono ?_
  rintro e w' ⟨hb, ⟨_, he⟩ | ⟨hbad, _⟩⟩
  · exact ⟨he, hb⟩
  · omega

theorem sub_ge (v1 v2 : Value) (zs ys : List Nat) (w : World) (h1 : Arg w v1 zs) (h2 : Arg w v2 ys) (f1 : zs.length ≤ 35184372088831) (h : val ys ≤ val zs) :
    Calls Try.prog 9 #[v1, v2] w fun e w' => (∃ v c, e = .returned (.tuple #[v, .int .i64 c]) ∧ (c == (10 : Int)) = false) ∧ Below w.heap.size w w' := by
  refine (sub_any v1 v2 zs ys w h1 h2 f1).mono ?_
  rintro e w' ⟨hb, ⟨hbad, _⟩ | ⟨_, v, c, rs, he, _, hc⟩⟩
  · omega
  · refine ⟨⟨v, c, he, ?_⟩, hb⟩
    rcases hc with ⟨rfl, _⟩ | ⟨rfl, _⟩ <;> rfl

set_option maxHeartbeats 800000 in
theorem natOrders_walk (v0 : Value) (z0 : List Nat) (v1 : Value) (z1 : List Nat) (v2 : Value) (z2 : List Nat) (w : World)
    (A0 : Arg w v0 z0) (s0 : z0.length ≤ 17592186043904) (A1 : Arg w v1 z1) (_s1 : z1.length ≤ 17592186043904) (A2 : Arg w v2 z2) (_s2 : z2.length ≤ 17592186043904) :
    Calls Try.prog 5 #[v0, v1, v2] w fun e w' => e = .returned (.bool true) ∧ Below w.heap.size w w' := by
  have HB : Hid (Below w.heap.size w w) := Below.refl _ _
  have s0' : z0.length ≤ 35184372088831 := by omega
  have haa : cmpN (val z0) (val z0) = 0 := cmpN_self _
  rcases cmpN_range (val z0) (val z1) with ⟨hx, h01⟩ | ⟨hx, h01⟩ | ⟨hx, h01⟩
  · have hy : cmpN (val z1) (val z0) = 1 := cmpN_gt h01
    have hl : ((blen (val z0) : Nat) : Int) ≤ ((blen (val z1) : Nat) : Int) := by have := blen_mono (Nat.le_of_lt h01); omega
    have hsub := fun w h1 h2 => sub_lt v0 v1 z0 z1 w h1 h2 s0' h01
    rcases cmpN_range (val z1) (val z2) with ⟨hz, h12⟩ | ⟨hz, h12⟩ | ⟨hz, h12⟩
    · have hac : cmpN (val z0) (val z2) = -1 := cmpN_lt (by omega)
      clear h01 h12
      go_enter Try.func5, Try.ntmps5
      go_wp2_with (first
        | (go_at_call 10; refine (compare_any _ _ _ _ _ (by assumption) (by assumption)).mono ?_; rintro e wn ⟨rfl, hs⟩; replace A0 := A0.below (hs.below _); replace A1 := A1.below (hs.below _); replace A2 := A2.below (hs.below _); replace HB := hid_same HB hs; clear hs)
        | (go_at_call 6; refine (length_val _ _ _ (by assumption)).mono ?_; rintro e wn ⟨rfl, hw⟩; subst hw)
        | (go_at_call 9; refine (hsub _ (by assumption) (by assumption)).mono ?_; rintro e wn ⟨rfl, hb⟩; replace A0 := A0.below hb; replace HB := hid_below HB hb; clear hb)
        | (go_at_call 7; refine (lives_any _).mono ?_; rintro e wn ⟨rfl, hb⟩; replace HB := hid_below HB hb; clear hb))
      all_goals go_ret
      all_goals exact ⟨rfl, HB.out⟩
    · have hac : cmpN (val z0) (val z2) = -1 := cmpN_lt (by omega)
      clear h01 h12
      go_enter Try.func5, Try.ntmps5
      go_wp2_with (first
        | (go_at_call 10; refine (compare_any _ _ _ _ _ (by assumption) (by assumption)).mono ?_; rintro e wn ⟨rfl, hs⟩; replace A0 := A0.below (hs.below _); replace A1 := A1.below (hs.below _); replace A2 := A2.below (hs.below _); replace HB := hid_same HB hs; clear hs)
        | (go_at_call 6; refine (length_val _ _ _ (by assumption)).mono ?_; rintro e wn ⟨rfl, hw⟩; subst hw)
        | (go_at_call 9; refine (hsub _ (by assumption) (by assumption)).mono ?_; rintro e wn ⟨rfl, hb⟩; replace A0 := A0.below hb; replace HB := hid_below HB hb; clear hb)
        | (go_at_call 7; refine (lives_any _).mono ?_; rintro e wn ⟨rfl, hb⟩; replace HB := hid_below HB hb; clear hb))
      all_goals go_ret
      all_goals exact ⟨rfl, HB.out⟩
    · skip
      clear h01 h12
      go_enter Try.func5, Try.ntmps5
      go_wp2_with (first
        | (go_at_call 10; refine (compare_any _ _ _ _ _ (by assumption) (by assumption)).mono ?_; rintro e wn ⟨rfl, hs⟩; replace A0 := A0.below (hs.below _); replace A1 := A1.below (hs.below _); replace A2 := A2.below (hs.below _); replace HB := hid_same HB hs; clear hs)
        | (go_at_call 6; refine (length_val _ _ _ (by assumption)).mono ?_; rintro e wn ⟨rfl, hw⟩; subst hw)
        | (go_at_call 9; refine (hsub _ (by assumption) (by assumption)).mono ?_; rintro e wn ⟨rfl, hb⟩; replace A0 := A0.below hb; replace HB := hid_below HB hb; clear hb)
        | (go_at_call 7; refine (lives_any _).mono ?_; rintro e wn ⟨rfl, hb⟩; replace HB := hid_below HB hb; clear hb))
      all_goals go_ret
      all_goals exact ⟨rfl, HB.out⟩
  · have hy : cmpN (val z1) (val z0) = 0 := by rw [h01]; exact cmpN_self _
    have hl : ((blen (val z0) : Nat) : Int) ≤ ((blen (val z1) : Nat) : Int) := by rw [h01]; omega
    have hsub := fun w h1 h2 => sub_ge v0 v1 z0 z1 w h1 h2 s0' (by omega)
    rcases cmpN_range (val z1) (val z2) with ⟨hz, h12⟩ | ⟨hz, h12⟩ | ⟨hz, h12⟩
    · have hac : cmpN (val z0) (val z2) = -1 := cmpN_lt (by omega)
      clear h01 h12
      go_enter Try.func5, Try.ntmps5
      go_wp2_with (first
        | (go_at_call 10; refine (compare_any _ _ _ _ _ (by assumption) (by assumption)).mono ?_; rintro e wn ⟨rfl, hs⟩; replace A0 := A0.below (hs.below _); replace A1 := A1.below (hs.below _); replace A2 := A2.below (hs.below _); replace HB := hid_same HB hs; clear hs)
        | (go_at_call 6; refine (length_val _ _ _ (by assumption)).mono ?_; rintro e wn ⟨rfl, hw⟩; subst hw)
        | (go_at_call 9; refine (hsub _ (by assumption) (by assumption)).mono ?_; rintro e wn ⟨⟨v, c, rfl, hc10⟩, hb⟩; replace A0 := A0.below hb; replace HB := hid_below HB hb; clear hb)
        | (go_at_call 7; refine (lives_any _).mono ?_; rintro e wn ⟨rfl, hb⟩; replace HB := hid_below HB hb; clear hb))
      all_goals go_ret
      all_goals exact ⟨rfl, HB.out⟩
    · have hac : cmpN (val z0) (val z2) = 0 := by rw [h01, h12]; exact cmpN_self _
      clear h01 h12
      go_enter Try.func5, Try.ntmps5
      go_wp2_with (first
        | (go_at_call 10; refine (compare_any _ _ _ _ _ (by assumption) (by assumption)).mono ?_; rintro e wn ⟨rfl, hs⟩; replace A0 := A0.below (hs.below _); replace A1 := A1.below (hs.below _); replace A2 := A2.below (hs.below _); replace HB := hid_same HB hs; clear hs)
        | (go_at_call 6; refine (length_val _ _ _ (by assumption)).mono ?_; rintro e wn ⟨rfl, hw⟩; subst hw)
        | (go_at_call 9; refine (hsub _ (by assumption) (by assumption)).mono ?_; rintro e wn ⟨⟨v, c, rfl, hc10⟩, hb⟩; replace A0 := A0.below hb; replace HB := hid_below HB hb; clear hb)
        | (go_at_call 7; refine (lives_any _).mono ?_; rintro e wn ⟨rfl, hb⟩; replace HB := hid_below HB hb; clear hb))
      all_goals go_ret
      all_goals exact ⟨rfl, HB.out⟩
    · skip
      clear h01 h12
      go_enter Try.func5, Try.ntmps5
      go_wp2_with (first
        | (go_at_call 10; refine (compare_any _ _ _ _ _ (by assumption) (by assumption)).mono ?_; rintro e wn ⟨rfl, hs⟩; replace A0 := A0.below (hs.below _); replace A1 := A1.below (hs.below _); replace A2 := A2.below (hs.below _); replace HB := hid_same HB hs; clear hs)
        | (go_at_call 6; refine (length_val _ _ _ (by assumption)).mono ?_; rintro e wn ⟨rfl, hw⟩; subst hw)
        | (go_at_call 9; refine (hsub _ (by assumption) (by assumption)).mono ?_; rintro e wn ⟨⟨v, c, rfl, hc10⟩, hb⟩; replace A0 := A0.below hb; replace HB := hid_below HB hb; clear hb)
        | (go_at_call 7; refine (lives_any _).mono ?_; rintro e wn ⟨rfl, hb⟩; replace HB := hid_below HB hb; clear hb))
      all_goals go_ret
      all_goals exact ⟨rfl, HB.out⟩
  · have hy : cmpN (val z1) (val z0) = -1 := cmpN_lt h01
    have hsub := fun w h1 h2 => sub_ge v0 v1 z0 z1 w h1 h2 s0' (by omega)
    rcases cmpN_range (val z1) (val z2) with ⟨hz, h12⟩ | ⟨hz, h12⟩ | ⟨hz, h12⟩
    · skip
      clear h01 h12
      go_enter Try.func5, Try.ntmps5
      go_wp2_with (first
        | (go_at_call 10; refine (compare_any _ _ _ _ _ (by assumption) (by assumption)).mono ?_; rintro e wn ⟨rfl, hs⟩; replace A0 := A0.below (hs.below _); replace A1 := A1.below (hs.below _); replace A2 := A2.below (hs.below _); replace HB := hid_same HB hs; clear hs)
        | (go_at_call 6; refine (length_val _ _ _ (by assumption)).mono ?_; rintro e wn ⟨rfl, hw⟩; subst hw)
        | (go_at_call 9; refine (hsub _ (by assumption) (by assumption)).mono ?_; rintro e wn ⟨⟨v, c, rfl, hc10⟩, hb⟩; replace A0 := A0.below hb; replace HB := hid_below HB hb; clear hb)
        | (go_at_call 7; refine (lives_any _).mono ?_; rintro e wn ⟨rfl, hb⟩; replace HB := hid_below HB hb; clear hb))
      all_goals go_ret
      all_goals exact ⟨rfl, HB.out⟩
    · skip
      clear h01 h12
      go_enter Try.func5, Try.ntmps5
      go_wp2_with (first
        | (go_at_call 10; refine (compare_any _ _ _ _ _ (by assumption) (by assumption)).mono ?_; rintro e wn ⟨rfl, hs⟩; replace A0 := A0.below (hs.below _); replace A1 := A1.below (hs.below _); replace A2 := A2.below (hs.below _); replace HB := hid_same HB hs; clear hs)
        | (go_at_call 6; refine (length_val _ _ _ (by assumption)).mono ?_; rintro e wn ⟨rfl, hw⟩; subst hw)
        | (go_at_call 9; refine (hsub _ (by assumption) (by assumption)).mono ?_; rintro e wn ⟨⟨v, c, rfl, hc10⟩, hb⟩; replace A0 := A0.below hb; replace HB := hid_below HB hb; clear hb)
        | (go_at_call 7; refine (lives_any _).mono ?_; rintro e wn ⟨rfl, hb⟩; replace HB := hid_below HB hb; clear hb))
      all_goals go_ret
      all_goals exact ⟨rfl, HB.out⟩
    · skip
      clear h01 h12
      go_enter Try.func5, Try.ntmps5
      go_wp2_with (first
        | (go_at_call 10; refine (compare_any _ _ _ _ _ (by assumption) (by assumption)).mono ?_; rintro e wn ⟨rfl, hs⟩; replace A0 := A0.below (hs.below _); replace A1 := A1.below (hs.below _); replace A2 := A2.below (hs.below _); replace HB := hid_same HB hs; clear hs)
        | (go_at_call 6; refine (length_val _ _ _ (by assumption)).mono ?_; rintro e wn ⟨rfl, hw⟩; subst hw)
        | (go_at_call 9; refine (hsub _ (by assumption) (by assumption)).mono ?_; rintro e wn ⟨⟨v, c, rfl, hc10⟩, hb⟩; replace A0 := A0.below hb; replace HB := hid_below HB hb; clear hb)
        | (go_at_call 7; refine (lives_any _).mono ?_; rintro e wn ⟨rfl, hb⟩; replace HB := hid_below HB hb; clear hb))
      all_goals go_ret
      all_goals exact ⟨rfl, HB.out⟩

end Go.Proofs.Ythcdjlhhiheclab
