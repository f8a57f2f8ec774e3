/- The walk of the law NatNames: it answers true, and writes nothing that was there. -/
import Derived.Test.YthcdjlhhiheclaaLives
namespace Go.Proofs.Ythcdjlhhiheclaa
open Go.RowKit
open Lm

theorem natNames_walk (w : World) : Calls Try.prog 3 #[] w fun e w' => e = .returned (.bool true) ∧ Below w.heap.size w w' := by
  go_enter Try.func3, Try.ntmps3
  go_wp2_with fail
  refine (lives_any _).mono ?_
  rintro e w1 ⟨rfl, hb⟩
  have HB : Hid (Below w.heap.size w w1) := hb
  clear hb
  go_wp2
  go_ret
  exact ⟨rfl, HB.out⟩

end Go.Proofs.Ythcdjlhhiheclaa
