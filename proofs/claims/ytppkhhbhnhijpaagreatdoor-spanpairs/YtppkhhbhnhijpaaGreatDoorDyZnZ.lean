/- The document's dyadic as its mantissa. -/
import Derived.Test.YtppkhhbhnhijpaaGreatDoorQ9
namespace Go.Proofs.YtppkhhbhnhijpaaGreatDoor
open Go.RowKit
open Lm

theorem Dn.zn {w : World} {b : Bool} {v : Value} {M : Int} (h : Dn w b v M) : Zn w (.agg #[.bool b, v]) M := ⟨v, by rw [h.1], h.2⟩

end Go.Proofs.YtppkhhbhnhijpaaGreatDoor
