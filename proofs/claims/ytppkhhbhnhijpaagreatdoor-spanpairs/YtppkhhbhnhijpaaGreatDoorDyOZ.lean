/- Package dyadic: Of, Sign, Top, Length; the document's Top. -/
import Derived.Test.YtppkhhbhnhijpaaGreatDoorDyTZ
import Derived.Test.YtppkhhbhnhijpaaGreatDoorQ2
namespace Go.Proofs.YtppkhhbhnhijpaaGreatDoor
open Go.RowKit
open Lm
attribute [local go_sem ↓] Go.wp_at_zero Go.wp_at_succ

theorem blen_int8 {n : Int} (h1 : -9223372036854775808 ≤ n) (h2 : n ≤ 9223372036854775807) : blen n.natAbs ≤ 64 := by
  have hxa : n.natAbs ≤ 9223372036854775808 := by omega
  exact (blen_le_iff _ _).2 (Nat.lt_of_le_of_lt hxa (by decide))

/-- dyadic.Of of an int. -/
def YOf (w : World) (M E : Int) (e : Ending) (w' : World) : Prop :=
  (∃ b a n k rs, e = .returned (.agg #[.bool b, .slice a n k, .int .i64 E]) ∧ b = decide (M < 0) ∧ Ans w' w.heap.size (.slice a n k) rs ∧ val rs = M.natAbs ∧ tr rs = rs ∧ rs.length ≤ 1) ∧ Below w.heap.size w w'

theorem ysign_any (b : Bool) (a : Option Addr) (c : Nat) (X : List Nat) (ex : Int) (w : World) (hA : Arg w (.slice a X.length c) X) :
    Calls Tryz.prog 95 #[.agg #[.bool b, .slice a X.length c, .int .i64 ex]] w fun e w' => e = .returned (.int .i64 (zz b (val X)).sign) ∧ Below w.heap.size w w' := by
  obtain ⟨w0, hw0, hb0, h0⟩ := enter1 w (.cells #[.bool b, .slice a X.length c, .int .i64 ex] 31)
  obtain ⟨k0, k1, k2⟩ := tri8 h0
  have HS := wsign_any b _ X w0 (hA.below hb0)
  rw [sg_sign] at HS
  have HB := hide hb0
  generalize (zz b (val X)).sign = s at *
  clear h0 hb0 hA
  go_enter Tryz.func95, Tryz.ntmps95
  go_wp2_with fail
  refine HS.mono ?_
  rintro e t1 ⟨rfl, g1⟩
  have HG := hide (bl_trans8 HB.out g1)
  clear g1 HS
  go_wp2
  go_ret
  exact ⟨rfl, HG.out⟩

theorem ylen_any (b : Bool) (a : Option Addr) (c : Nat) (X : List Nat) (w : World) (hA : Arg w (.slice a X.length c) X) :
    Calls Tryz.prog 138 #[.agg #[.bool b, .slice a X.length c]] w fun e w' => e = .returned (.int .i64 ((blen (val X) : Nat) : Int)) ∧ Below w.heap.size w w' := by
  obtain ⟨w0, hw0, hb0, h0⟩ := enter1 w (.cells #[.bool b, .slice a X.length c] 150)
  obtain ⟨k0, k1⟩ := duo h0
  have HL := length_val _ X w0 (hA.below hb0)
  have HB := hide hb0
  clear h0 hb0 hA
  go_enter Tryz.func138, Tryz.ntmps138
  go_wp2_with fail
  refine HL.mono ?_
  rintro e wn ⟨rfl, hw⟩; rw [hw]; clear hw wn HL
  go_wp2
  go_ret
  exact ⟨rfl, HB.out⟩

set_option maxRecDepth 20000 in
set_option maxHeartbeats 1000000 in
theorem ytopN_any (b : Bool) (a : Option Addr) (c : Nat) (X : List Nat) (ex : Int) (w : World) (hA : Arg w (.slice a X.length c) X) (h1 : -2305843009213693952 ≤ ex) (h2 : ex ≤ 2305843009213693952) :
    Calls Tryz.prog 139 #[.agg #[.bool b, .slice a X.length c, .int .i64 ex]] w fun e w' => e = .returned (.int .i64 (ex + ((blen (val X) : Nat) : Int) - 1)) ∧ Below w.heap.size w w' := by
  obtain ⟨w0, hw0, hb0, h0⟩ := enter1 w (.cells #[.bool b, .slice a X.length c, .int .i64 ex] 153)
  have gd : Below w.heap.size w w0.drew := hb0.drew
  have g0 : Below w0.drew.heap.size w0.drew w0.drew := Below.refl _ _
  have KS := hide (fun (W : World) (hg : Below w0.drew.heap.size w0.drew W) => show W.cell? ⟨w.heap.size, 0, none⟩ = some (.bool b) ∧ W.cell? ⟨w.heap.size, 1, none⟩ = some (.slice a X.length c) ∧ W.cell? ⟨w.heap.size, 2, none⟩ = some (.int .i64 ex) from tri8 (block_upW hg (show w0.drew.heap[w.heap.size]? = some (.cells #[.bool b, .slice a X.length c, .int .i64 ex] 153) from h0)))
  have HL := ylen_any b a c X w0.drew (hA.below gd)
  have hbl := blen_len8 hA.limbs
  have hfw := hA.few
  have w1 : IntKind.i64.wrap (ex + ((blen (val X) : Nat) : Int)) = ex + ((blen (val X) : Nat) : Int) := by rw [IntKind.wrap_i64]; omega
  have w2 : IntKind.i64.wrap (ex + ((blen (val X) : Nat) : Int) - 1) = ex + ((blen (val X) : Nat) : Int) - 1 := by rw [IntKind.wrap_i64]; omega
  generalize blen (val X) = l at *
  have HB := hide gd
  obtain ⟨x0, x1, x2⟩ := KS.out _ g0
  clear h0 hb0 gd hA hbl hfw
  generalize hs1 : ex + (l : Int) = s1 at *
  have hs2 : ex + (l : Int) = s1 := hs1
  clear hs1
  go_enter Tryz.func139, Tryz.ntmps139
  go_wp2
  go_region_held3 (fun w' => w'.cell? ⟨w.heap.size, 0, none⟩ = some (.bool b) ∧ w'.cell? ⟨w.heap.size, 1, none⟩ = some (.slice a X.length c) ∧ w'.cell? ⟨w.heap.size, 2, none⟩ = some (.int .i64 ex)) (first | with_reducible exact KS.out _ g1 | with_reducible exact KS.out _ g0) (first
    | (go_at_call 138; refine HL.mono ?_; rintro e' t1 ⟨rfl, g1⟩))
  have HE := hide (bl_trans8 HB.out g1)
  clear g1 g0 KS HL
  go_wp2
  go_ret
  exact ⟨rfl, HE.out⟩

/-- What Top answers. -/
noncomputable def topV (z ex : Int) : Int := if fitE ex then (if z = 0 then 0 else ex + ((blen z.natAbs : Nat) : Int) - 1) else 0
noncomputable def topC (z ex : Int) : Int := if fitE ex then (if z = 0 then 1 else 0) else 80

end Go.Proofs.YtppkhhbhnhijpaaGreatDoor
