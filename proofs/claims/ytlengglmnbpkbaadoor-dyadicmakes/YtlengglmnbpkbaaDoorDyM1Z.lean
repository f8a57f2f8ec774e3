/- What the law DyadicMakes wants: six boxes; what stays behind Own. -/
import Derived.Test.YtlengglmnbpkbaaDoorOwnWZ
import Derived.Test.YtlengglmnbpkbaaDoorRzNZ
import Derived.Test.YtlengglmnbpkbaaDoorDyH2Z
import Derived.Test.YtlengglmnbpkbaaDoorDyO2Z
import Derived.Test.YtlengglmnbpkbaaDoorDyKZ
import Derived.Test.YtlengglmnbpkbaaDoorDyTZ
import Derived.Test.YtlengglmnbpkbaaDoorQ9
namespace Go.Proofs.YtlengglmnbpkbaaDoor
open Go.RowKit
open Lm

theorem BW.boxes {w w' : World} {base base2 : Nat} {vs : List Value} {rss : List (List Nat)} (hk : BW (Turns vs w.heap.size) base2 w w') (h : Aparts w base vs rss) (g : Nat) (cs : Array Value) (t : TypeId) (ht : t ≠ 65) (hc : w.heap[g]? = some (.cells cs t)) : w'.heap[g]? = some (.cells cs t) := by
  refine hk.other g _ (fun hP => ?_) hc
  rcases hP with rfl | ⟨i, hi, ho⟩
  · have := lt_of_block hc
    omega
  · obtain ⟨_, h2⟩ := (h.row i hi).own
    rcases h2 with ⟨e, _⟩ | ⟨g', cap', cur, e, hge, hh, _⟩
    · rw [e] at ho; cases ho
    · rw [e] at ho
      simp only [Value.ownBlock, Option.some.injEq] at ho
      subst ho
      rw [hh] at hc
      simp only [Option.some.injEq, Obj.cells.injEq] at hc
      exact ht hc.2.1.symm

theorem Num.over {w0 w w' : World} {P : Nat → Prop} {base : Nat} {v : Value} {x : Nat} (h : Num w0 v x) (hg : Below w0.heap.size w0 w) (hk : BW P base w w') (hP : ∀ b off n c, v = .slice (some ⟨b, off, none⟩) n c → b < w0.heap.size → ¬ P b) : Num w' v x := by
  obtain ⟨ds, hA, hr⟩ := h
  refine ⟨ds, ?_, hr⟩
  obtain ⟨ao, cap, h1, h2, h3, h4⟩ := hA.form
  refine ⟨⟨ao, cap, h1, h2, h3, ?_⟩, hA.limbs, hA.few, hA.nz⟩
  rcases h4 with h4 | ⟨b, off, rfl, hc⟩
  · exact .inl h4
  · refine .inr ⟨b, off, rfl, fun k hk' => ?_⟩
    have hb : b < w0.heap.size := Lies.block (zs := ds) (.inr ⟨b, off, rfl, hc⟩) (by omega)
    have e0 := block_upW hg (Array.getElem?_eq_getElem hb)
    have e := hk.other b _ (hP b off _ _ h1 hb) e0
    rw [World.cell?_of_block (w := w0) (e.trans (Array.getElem?_eq_getElem hb).symm)]
    exact hc k hk'

/-- Two lists, one made before the number, one behind. -/
theorem turns_off {w4 w10 t : World} {p o v : Value} {rp ro : List Nat} {b4 : Nat} (hp : Ans w4 b4 p rp) (ho : Ans t w10.heap.size o ro) (hn : New w4.heap.size v) (hs : w10.heap.size ≤ t.heap.size) : ∀ b off n c, v = .slice (some ⟨b, off, none⟩) n c → b < w10.heap.size → ¬ Turns [p, o] t.heap.size b := by
  intro b off n c e hb hP
  have h1 := hn b off n c e
  rcases hP with rfl | ⟨i, hi, hown⟩
  · omega
  · match i, hi with
    | 0, _ =>
      have h2 := (hp.own.lt b (by simpa using hown)).2
      omega
    | 1, _ =>
      have h2 := (ho.own.lt b (by simpa using hown)).1
      omega

/-- Six boxes. -/
structure Six (g1 g2 g3 g4 g5 g6 : Nat) (o1 o2 o3 o4 o5 o6 : Obj) (W : World) : Prop where
  b1 : W.heap[g1]? = some o1
  b2 : W.heap[g2]? = some o2
  b3 : W.heap[g3]? = some o3
  b4 : W.heap[g4]? = some o4
  b5 : W.heap[g5]? = some o5
  b6 : W.heap[g6]? = some o6

theorem Six.up {g1 g2 g3 g4 g5 g6 : Nat} {o1 o2 o3 o4 o5 o6 : Obj} {W W' : World} (h : Six g1 g2 g3 g4 g5 g6 o1 o2 o3 o4 o5 o6 W) (hb : Below W.heap.size W W') : Six g1 g2 g3 g4 g5 g6 o1 o2 o3 o4 o5 o6 W' :=
  ⟨block_upW hb h.b1, block_upW hb h.b2, block_upW hb h.b3, block_upW hb h.b4, block_upW hb h.b5, block_upW hb h.b6⟩

theorem Six.alloc {g1 g2 g3 g4 g5 g6 : Nat} {o1 o2 o3 o4 o5 o6 : Obj} {W : World} (h : Six g1 g2 g3 g4 g5 g6 o1 o2 o3 o4 o5 o6 W) (o : Obj) : Six g1 g2 g3 g4 g5 g6 o1 o2 o3 o4 o5 o6 (W.alloc o) := h.up (below_one6 _ _)

/-- The document's highest position is the program's. -/
theorem top_same {z ex : Int} (h : z ≠ 0) : ((blen (omz z).natAbs : Nat) : Int) - 1 + oe z ex = ex + ((blen z.natAbs : Nat) : Int) - 1 := by
  rw [omz_abs, od_blen (x := z.natAbs) (by omega)]
  unfold oe
  rw [if_neg h]
  omega

end Go.Proofs.YtlengglmnbpkbaaDoor
