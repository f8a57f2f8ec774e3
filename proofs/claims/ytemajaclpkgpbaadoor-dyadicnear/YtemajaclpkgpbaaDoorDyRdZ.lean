/- The document's Add of any two dyadics; Sum. -/
import Derived.Test.YtemajaclpkgpbaaDoorDyRcZ
import Derived.Test.YtemajaclpkgpbaaDoorDyZZ
import Derived.Test.YtemajaclpkgpbaaDoorDyKZ
namespace Go.Proofs.YtemajaclpkgpbaaDoor
open Go.RowKit
open Lm
attribute [local go_sem ↓] Go.wp_at_zero Go.wp_at_succ

theorem Nr8.odd {M E : Int} (h : Nr8 M E) (h0 : M ≠ 0) : M.natAbs % 2 = 1 := by
  rcases h with ⟨h, _⟩ | h
  · exact absurd h h0
  · exact h

theorem rdAdd_k (b1 : Bool) (a1 : Option Addr) (n1 c1 : Nat) (M1 E1 : Int) (b2 : Bool) (a2 : Option Addr) (n2 c2 : Nat) (M2 E2 : Int) (w : World) (hD1 : Dn w b1 (.slice a1 n1 c1) M1) (hD2 : Dn w b2 (.slice a2 n2 c2) M2) (r1 : Nr8 M1 E1) (r2 : Nr8 M2 E2) (f1 : blen M1.natAbs ≤ 4000000000000) (f2 : blen M2.natAbs ≤ 4000000000000) (he1 : -1152921504606846976 ≤ E1) (he2 : E1 ≤ 1152921504606846976) (he3 : -1152921504606846976 ≤ E2) (he4 : E2 ≤ 1152921504606846976) :
    Calls Tryd.prog 38 #[.agg #[.bool b1, .slice a1 n1 c1, .int .i64 E1], .agg #[.bool b2, .slice a2 n2 c2, .int .i64 E2]] w (AddK w (if M1 = 0 then blen M2.natAbs else if M2 = 0 then blen M1.natAbs else if E2 ≤ E1 then blen M2.natAbs else blen M1.natAbs) (omz (sm M1 E1 M2 E2)) (oe (sm M1 E1 M2 E2) (min E1 E2))) := by
  by_cases h1 : M1 = 0
  · subst h1
    rw [(sm_zero M2 E1 E2).1, (sm_zero M2 E1 E2).2, r2.stay.1, r2.stay.2]
    exact rdAdd_zero1 b1 a1 n1 c1 E1 b2 a2 n2 c2 M2 E2 w hD1 hD2 _
  · by_cases h2 : M2 = 0
    · subst h2
      rw [sm_comm, Int.min_comm, (sm_zero M1 E2 E1).1, (sm_zero M1 E2 E1).2, r1.stay.1, r1.stay.2]
      exact rdAdd_zero2 b1 a1 n1 c1 M1 E1 b2 a2 n2 c2 E2 w hD1 hD2 h1 _
    · by_cases hl : E2 ≤ E1
      · obtain ⟨g, hg⟩ : ∃ g : Nat, E1 - E2 = (g : Int) := ⟨(E1 - E2).toNat, by omega⟩
        have hm : min E1 E2 = E2 := by omega
        have hs : sm M1 E1 M2 E2 = M2 + M1 * 2 ^ g := by
          unfold sm
          rw [hm, hg, show (E2 - E2).toNat = 0 by omega, Int.toNat_natCast, Int.pow_zero, Int.mul_one, Int.add_comm]
        rw [hs, hm, if_neg h1, if_neg h2, if_pos hl]
        exact rdAdd_ge b1 a1 n1 c1 M1 E1 b2 a2 n2 c2 M2 E2 g w hD1 hD2 h1 h2 (r2.odd h2) hg f1 f2 he1 he2 he3 he4
      · obtain ⟨g, hg⟩ : ∃ g : Nat, E2 - E1 = (g : Int) := ⟨(E2 - E1).toNat, by omega⟩
        have hm : min E1 E2 = E1 := by omega
        have hs : sm M1 E1 M2 E2 = M1 + M2 * 2 ^ g := by
          unfold sm
          rw [hm, hg, show (E1 - E1).toNat = 0 by omega, Int.toNat_natCast, Int.pow_zero, Int.mul_one]
        rw [hs, hm, if_neg h1, if_neg h2, if_neg hl]
        exact rdAdd_lt b1 a1 n1 c1 M1 E1 b2 a2 n2 c2 M2 E2 g w hD1 hD2 h1 h2 (r1.odd h1) hg (by omega) f1 f2 he1 he2 he3 he4

theorem rdAdd_any (b1 : Bool) (a1 : Option Addr) (n1 c1 : Nat) (M1 E1 : Int) (b2 : Bool) (a2 : Option Addr) (n2 c2 : Nat) (M2 E2 : Int) (w : World) (hD1 : Dn w b1 (.slice a1 n1 c1) M1) (hD2 : Dn w b2 (.slice a2 n2 c2) M2) (r1 : Nr8 M1 E1) (r2 : Nr8 M2 E2) (f1 : blen M1.natAbs ≤ 4000000000000) (f2 : blen M2.natAbs ≤ 4000000000000) (he1 : -1152921504606846976 ≤ E1) (he2 : E1 ≤ 1152921504606846976) (he3 : -1152921504606846976 ≤ E2) (he4 : E2 ≤ 1152921504606846976) :
    Calls Tryd.prog 38 #[.agg #[.bool b1, .slice a1 n1 c1, .int .i64 E1], .agg #[.bool b2, .slice a2 n2 c2, .int .i64 E2]] w (AddR w (omz (sm M1 E1 M2 E2)) (oe (sm M1 E1 M2 E2) (min E1 E2))) :=
  (rdAdd_k b1 a1 n1 c1 M1 E1 b2 a2 n2 c2 M2 E2 w hD1 hD2 r1 r2 f1 f2 he1 he2 he3 he4).mono fun _ _ h => h.r

end Go.Proofs.YtemajaclpkgpbaaDoor
