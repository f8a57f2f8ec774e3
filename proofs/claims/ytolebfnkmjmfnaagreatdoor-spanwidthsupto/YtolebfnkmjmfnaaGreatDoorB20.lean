/- The walk of the law SpanWidths. -/
import Derived.Test.YtolebfnkmjmfnaaGreatDoorB15
import Derived.Test.YtolebfnkmjmfnaaGreatDoorB16
import Derived.Test.YtolebfnkmjmfnaaGreatDoorB17
import Derived.Test.YtolebfnkmjmfnaaGreatDoorB18
import Derived.Test.YtolebfnkmjmfnaaGreatDoorB19
import Derived.Test.YtolebfnkmjmfnaaGreatDoorRows
import Derived.Test.YtolebfnkmjmfnaaGreatDoorB01
import Derived.ProofKit
import Derived.OpenShut
import Derived.LaidMore
import Derived.Lay
import Derived.Stop.Joined
namespace Go.Proofs.YtolebfnkmjmfnaaGreatDoor
open Go.RowKit
open Lm

theorem spanWidths_walk (b0 : Bool) (u0 : Value) (z0 : List Nat) (e0 : Int) (b1 : Bool) (u1 : Value) (z1 : List Nat) (e1 : Int) (pos : Int) (w : World) (hT : Tab w) (A0 : Arg w u0 z0) (s0 : z0.length ≤ 1048576) (_ : -9223372036854775808 ≤ e0) (_ : e0 ≤ 9223372036854775807) (A1 : Arg w u1 z1) (s1 : z1.length ≤ 1048576) (_ : -9223372036854775808 ≤ e1) (_ : e1 ≤ 9223372036854775807) (_ : -9223372036854775808 ≤ pos) (_ : pos ≤ 9223372036854775807) :
    Calls Tryz.prog 3 #[.agg #[.bool b0, u0, .int .i64 e0, .bool b1, u1, .int .i64 e1], .int .i64 pos] w fun e w' => e = .returned (.bool true) ∧ Below w.heap.size w w' := by
  obtain ⟨a0, k0, rfl, _, _, _⟩ := A0.form
  obtain ⟨a1, k1, rfl, _, _, _⟩ := A1.form
  obtain ⟨L, hL⟩ : ∃ L : Nat, 4611686018427387904 ≤ L := ⟨4611686018427387904, Nat.le_refl _⟩
  by_cases hFL : flt e0 e1 (vof b0 z0 e0 L) (vof b1 z1 e1 L) = 0
  · obtain ⟨hE0, hE1, _⟩ := flt_zero hFL
    have r0 := (fitE_iff e0).1 hE0
    have r1 := (fitE_iff e1).1 hE1
    have v0 := vof_even (b := b0) (X := z0) (ex := e0) (L := L) (by omega)
    have v1 := vof_even (b := b1) (X := z1) (ex := e1) (L := L) (by omega)
    have m0 := vof_small (b := b0) (ex := e0) (L := L) A0 s0 (by omega)
    have m1 := vof_small (b := b1) (ex := e1) (L := L) A1 s1 (by omega)
    have p0 := (Rp.make L (zz b0 (val z0)) e0 (by omega)).norm
    have p1 := (Rp.make L (zz b1 (val z1)) e1 (by omega)).norm
    have F0 := read_facts (b := b0) (ex := e0) A0 (by omega) hE0
    have F1 := read_facts (b := b1) (ex := e1) A1 (by omega) hE1
    obtain ⟨W, hW⟩ : ∃ W, vof b0 z0 e0 L + vof b1 z1 e1 L = 2 * W := ⟨(vof b0 z0 e0 L + vof b1 z1 e1 L) / 2, by omega⟩
    obtain ⟨cw, kw⟩ : ∃ c, Code L (vof b1 z1 e1 L + -(vof b0 z0 e0 L)) c := ⟨_, _, _, (p1.add p0.neg).norm, nr8_of _ _, rfl⟩
    obtain ⟨MW, EW, hRW, hNW⟩ : ∃ M E, Rp L M E W ∧ Nr8 M E := ⟨_, _, ((p0.add p1).half hW (by omega)).norm, nr8_of _ _⟩
    obtain ⟨cm, hcm⟩ : ∃ c, c = dcode MW EW := ⟨_, rfl⟩
    have km : Code L W cm := ⟨MW, EW, hRW, hNW, hcm⟩
    cases hK : fitE pos
    · exact spanWidths_B b0 a0 k0 z0 e0 b1 a1 k1 z1 e1 pos L _ _ w hT A0 A1 s0 s1 hL rfl rfl W cw hFL hW m0 m1 kw cm km hK
    · by_cases h0 : cm = 0
      · have hsw : Sml L W := by
          refine ⟨MW, EW, hRW, hNW, ?_⟩
          rcases Nat.lt_or_ge 67108864 (blen MW.natAbs) with h | h
          · rw [code3 h] at hcm
            omega
          · exact h
        rw [h0] at km
        have hp := (fitE_iff pos).1 hK
        have hRR := (rnd_rv (pos := pos) (m := 0) hRW hNW (by omega) (.inl rfl)).norm
        obtain ⟨d0, c0⟩ : ∃ c, Code L (vof b0 z0 e0 L) c := ⟨_, _, _, p0, nr8_of _ _, rfl⟩
        obtain ⟨d1, c1⟩ : ∃ c, Code L (vof b1 z1 e1 L) c := ⟨_, _, _, p1, nr8_of _ _, rfl⟩
        by_cases hlt : rv 0 W (2 ^ (pos + L).toNat) < vof b0 z0 e0 L
        · obtain ⟨dc, cc⟩ : ∃ c, Code L (max (vof b0 z0 e0 L) (rv 0 W (2 ^ (pos + L).toNat))) c := by
            rw [Int.max_eq_left (by omega)]
            exact ⟨_, c0⟩
          exact spanWidths_D b0 a0 k0 z0 e0 b1 a1 k1 z1 e1 pos L _ _ w hT A0 A1 s0 s1 hL rfl rfl W cw hFL hW m0 m1 kw _ _ d0 dc d1 _ km hsw hK rfl rfl hlt c0 cc c1 rfl
        · obtain ⟨dc, cc⟩ : ∃ c, Code L (max (vof b0 z0 e0 L) (rv 0 W (2 ^ (pos + L).toNat))) c := by
            rw [Int.max_eq_right (by omega)]
            exact ⟨_, _, _, hRR, nr8_of _ _, rfl⟩
          exact spanWidths_E b0 a0 k0 z0 e0 b1 a1 k1 z1 e1 pos L _ _ w hT A0 A1 s0 s1 hL rfl rfl W cw hFL hW m0 m1 kw _ _ d0 dc d1 _ km hsw hK rfl rfl hlt c0 cc c1 rfl
      · exact spanWidths_C b0 a0 k0 z0 e0 b1 a1 k1 z1 e1 pos L _ _ w hT A0 A1 s0 s1 hL rfl rfl W cw hFL hW m0 m1 kw cm km h0 hK
  · exact spanWidths_A b0 a0 k0 z0 e0 b1 a1 k1 z1 e1 pos L _ _ w hT A0 A1 s0 s1 hL rfl rfl _ rfl hFL

end Go.Proofs.YtolebfnkmjmfnaaGreatDoor

namespace Go.Proofs.YtolebfnkmjmfnaaGreatDoor
open Go.ChangeShapes Go.WideShapes Go.ChangeAt Go.RowKit

def laidTab : List (String × DataW Unit) := [("math/bits.deBruijn64tab", Rows.laid_math_bits_deBruijn64tab)]

theorem laid_is : (Rows.laid_math_bits_deBruijn64tab : DataW Unit) = .agg (tab64.map fun n => .lit (.int .u8 ((n : Nat) : Int))) := by kernel_rfl

theorem tab_of_laid {W : World} (h : laidMetH Tryz.prog laidTab W) : Tab W := by
  rw [MakeChecks.laidMetH_plain _ _ _ (by kernel_rfl)] at h
  obtain ⟨ps, ⟨g, t, cs, fuel, p, q, hg, ht, hv, hd, _, _⟩, _, _⟩ := h
  obtain rfl := Option.some.inj ((show Tryz.prog.globalNamed "math/bits.deBruijn64tab" = some 0 by kernel_rfl).symm.trans hg)
  obtain rfl := Option.some.inj ((show (Tryz.prog.globals[0]?).map (·.type) = some 186 by kernel_rfl).symm.trans ht)
  obtain ⟨xs, m, _, ex, _, hl, hel⟩ := DataW.trod_array Tryz.underlying186 hd
  have c5 : Tryz.prog.cellsOf 5 = 1 := by kernel_rfl
  have hcell : ∀ r, r < 64 → W.cell? ⟨0, r, none⟩ = some (.int .u8 ((tab64.getD r 0 : Nat) : Int)) := by
    intro r hr
    have hE := hel r hr
    rw [c5, Nat.mul_one, List.getElem?_eq_getElem (by omega)] at hE
    obtain ⟨z, e1, e2, _⟩ := DataW.trod_int Tryz.underlying5 hE
    have hlen : tab64.length = 64 := by kernel_rfl
    rw [laid_is] at ex
    have e3 : (xs.map (·.1)) = tab64.map fun n => .lit (.int .u8 ((n : Nat) : Int)) := (DataW.agg.inj (Prod.mk.inj ex).1).symm
    have e4 : (xs.map (·.1))[r]? = (tab64.map fun n => (DataW.lit (.int .u8 ((n : Nat) : Int)) : DataW Unit))[r]? := by rw [e3]
    rw [List.getElem?_map, List.getElem?_map, List.getElem?_eq_getElem (by omega : r < xs.length), List.getElem?_eq_getElem (by omega : r < tab64.length), e2] at e4
    have hz : z = ((tab64.getD r 0 : Nat) : Int) := by
      simp only [Option.map_some, Option.some.injEq, DataW.lit.injEq, Lit.int.injEq, true_and] at e4
      rw [e4, List.getD, List.getElem?_eq_getElem (by omega : r < tab64.length)]; rfl
    rw [World.var?_cell hg hv r, ← hz]
    have : cs.toList[r]? = some (.int .u8 z) := by
      have h0 : ((cs.toList.drop r).take 1)[0]? = some (.int .u8 z) := by rw [e1]; rfl
      simpa using h0
    simpa using this
  refine ⟨?_, hcell⟩
  have h0 := hcell 0 (by omega)
  rcases Nat.lt_or_ge 0 W.heap.size with h | h
  · exact h
  · simp [World.cell?, Array.getElem?_eq_none h] at h0

end Go.Proofs.YtolebfnkmjmfnaaGreatDoor
