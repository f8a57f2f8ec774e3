/- Package dyadic: Ratio. -/
import Derived.Test.YtemajaclpkgpbaaDoorDyWhZ
import Derived.Test.YtemajaclpkgpbaaDoorQB
import Derived.Test.YtemajaclpkgpbaaDoorQH
import Derived.Deep.RegionHeld3
namespace Go.Proofs.YtemajaclpkgpbaaDoor
open Go.RowKit
open Lm
attribute [local go_sem ↓] Go.wp_at_zero Go.wp_at_succ

/-- A box with a whole number that was answered or refused. -/
def OneZ (U : World) (base : Nat) (N : Int) (s f : Value) (wx : World) : Prop :=
  ∃ (g : Nat) (b : Bool) (a : Option Addr) (n k : Nat) (c : Int), s = .pointer (some ⟨g, 0, none⟩) ∧ f = .int .i64 c ∧ wx.heap[g]? = some (.cells #[.bool b, .slice a n k] 27) ∧ ZR wx base b (.slice a n k) c N ∧ Below U.heap.size U wx ∧ U.heap.size ≤ g

theorem bl_allocZ {W0 W : World} (h : Below W0.heap.size W0 W) (o : Obj) : Below W0.heap.size W0 (W.alloc o) := h.alloc h.size _

theorem bl_drewZ {W0 W : World} (h : Below W0.heap.size W0 W) : Below W0.heap.size W0 W.drew := h.drew

theorem made1dZ {W t : World} {o : Obj} (h : Below (W.alloc o).drew.heap.size (W.alloc o).drew t) : t.heap[W.heap.size]? = some o := block_upW h (heap_alloc_new W o)

theorem made1Z {W t : World} {o : Obj} (h : Below (W.alloc o).heap.size (W.alloc o) t) : t.heap[W.heap.size]? = some o := block_upW h (heap_alloc_new W o)

theorem one_z {U t : World} {base : Nat} {N : Int} {b : Bool} {a : Option Addr} {n k : Nat} {c : Int} (hs : ZR t base b (.slice a n k) c N) (g : Below U.heap.size U t) : OneZ U base N (.pointer (some ⟨t.heap.size, 0, none⟩)) (.int .i64 c) (t.alloc (.cells #[.bool b, .slice a n k] 27)) :=
  ⟨_, b, a, n, k, c, rfl, rfl, heap_alloc_new _ _, hs.below (below_one6 _ _), bl_allocZ g _, g.size⟩

theorem one_zs {U t : World} {base : Nat} {N : Int} {b : Bool} {a : Option Addr} {n k : Nat} {c : Int} {gg : Nat} (hq : t.heap[gg]? = some (.cells #[.bool false, .slice none 0 0] 27)) (hge : U.heap.size ≤ gg) (hs : ZR t base b (.slice a n k) c N) (g : Below U.heap.size U t) : OneZ U base N (.pointer (some ⟨gg, 0, none⟩)) (.int .i64 c) ((t.setCell ⟨gg, 0, none⟩ (.bool b)).setCell ⟨gg, 1, none⟩ (.slice a n k)) :=
  ⟨_, b, a, n, k, c, rfl, rfl, duo_all hq, hs.duo hq, below_duo g hge, hge⟩

/-- What Ratio answers: N over D. -/
def RatR (w : World) (N : Int) (D : Nat) (e : Ending) (w' : World) : Prop :=
  (∃ b a n k a2 n2 k2 c, e = .returned (.tuple #[.agg #[.bool b, .slice a n k, .slice a2 n2 k2], .int .i64 c]) ∧ ((c = 0 ∧ blen N.natAbs ≤ 67108864 ∧ blen D ≤ 67108864 ∧ b = decide (N < 0) ∧ ∃ rs ds, Chain w' w.heap.size [.slice a n k, .slice a2 n2 k2] [rs, ds] ∧ val rs = N.natAbs ∧ tr rs = rs ∧ val ds = D ∧ tr ds = ds ∧ rs.length ≤ 1048576 ∧ ds.length ≤ 1048576) ∨ (c = 3 ∧ b = false ∧ a = none ∧ n = 0 ∧ k = 0 ∧ a2 = none ∧ n2 = 0 ∧ k2 = 0 ∧ (67108864 < blen N.natAbs ∨ 67108864 < blen D)))) ∧ Below w.heap.size w w'

theorem ZRes.base10 {w : World} {b b' : Nat} {e : Ending} {z : Int} (h : ZRes w b e z) (hb : b' ≤ b) : ZRes w b' e z := by
  obtain ⟨b1, a1, n1, k1, c1, h1, h2⟩ := h
  exact ⟨b1, a1, n1, k1, c1, h1, h2.base hb⟩

theorem Chain.tri8 {w : World} {g : Nat} {a0 a1 a2 : Value} {t : TypeId} (hl : w.heap[g]? = some (.cells #[a0, a1, a2] t)) (ht : t ≠ 104) (u0 u1 u2 : Value) : ∀ {b : Nat} {vs : List Value} {rs : List (List Nat)}, Chain w b vs rs → Chain (((w.setCell ⟨g, 0, none⟩ u0).setCell ⟨g, 1, none⟩ u1).setCell ⟨g, 2, none⟩ u2) b vs rs
  | _, [], [], h => h
  | _, _ :: _, _ :: _, ⟨b', h1, h2, h3, h4⟩ => ⟨b', ⟨h1.1, by simpa [World.setCell] using h1.2⟩, h2.tri8 hl ht u0 u1 u2, h3, Chain.tri8 hl ht u0 u1 u2 h4⟩
  | _, [], _ :: _, h => h
  | _, _ :: _, [], h => h

/-- The denominator behind the numerator. -/
def OneN (U : World) (base : Nat) (u : Value) (rs : List Nat) (D : Nat) (s f : Value) (wx : World) : Prop :=
  ∃ (a : Option Addr) (k : Nat) (c : Int) (ds : List Nat), s = .slice a ds.length k ∧ f = .int .i64 c ∧ Chain wx base [u, .slice a ds.length k] [rs, ds] ∧ ((c = 0 ∧ val ds = D ∧ tr ds = ds ∧ blen D ≤ 67108864) ∨ (c = 3 ∧ ds = [] ∧ 67108864 < blen D)) ∧ Below U.heap.size U wx

def RErr (c : Int) (e : Ending) : Prop := e = .returned (.tuple #[.agg #[.bool false, .slice none 0 0, .slice none 0 0], .int .i64 c])

set_option maxRecDepth 20000 in
set_option maxHeartbeats 1000000 in
theorem yratio_no (b : Bool) (a : Option Addr) (n c : Nat) (ex : Int) (w : World) (hE : fitE ex = false) :
    Calls Tryd.prog 21 #[.agg #[.bool b, .slice a n c, .int .i64 ex]] w fun e w' => RErr 80 e ∧ Below w.heap.size w w' := by
  obtain ⟨w0, hw0, hb0, h0, h1'⟩ := enter2 w (.cells #[.bool b, .slice a n c, .int .i64 ex] 29) (.cells #[.bool false, .slice none 0 0, .slice none 0 0] 57)
  obtain ⟨k0, k1, k2⟩ := tri8 h0
  have HP := yread_no b a n c ex w0 hE
  have HC := hide h1'
  have HB := hide hb0
  clear h0 h1' hb0 hE
  go_enter Tryd.func21, Tryd.ntmps21
  go_wp2_with fail
  refine HP.mono ?_
  rintro e t1 ⟨he, g1⟩
  obtain ⟨fb, fa, fn, fc, fe, rfl⟩ : ∃ fb fa fn fc fe, e = .returned (.tuple #[.agg #[.bool fb, .slice fa fn fc, .int .i64 fe], .int .i64 80]) := ⟨_, _, _, _, _, he⟩
  clear he
  obtain ⟨w4, hw4, hb4, h4⟩ := enter1 t1 (.cells #[.bool fb, .slice fa fn fc, .int .i64 fe] 92)
  have HC1 := hide (block_upW hb4 (block_upW g1 HC.out))
  have HG := hide (bl_trans8 (bl_trans8 HB.out g1) hb4)
  have hf1 := tri8f HC1.out
  obtain ⟨m0, m1, m2⟩ := tri8 HC1.out
  clear g1 hb4 h4 HP
  go_wp2
  have T3 := tri8_all HC1.out (.bool false) (.slice none 0 0) (.slice none 0 0)
  have HE := hide (below_tri8 HG.out (show w.heap.size ≤ w.heap.size + 1 by omega) (.bool false) (.slice none 0 0) (.slice none 0 0))
  obtain ⟨p0, p1, p2⟩ := tri8 T3
  clear T3
  generalize ((w4.setCell ⟨w.heap.size + 1, 0, none⟩ (.bool false)).setCell ⟨w.heap.size + 1, 1, none⟩ (.slice none 0 0)).setCell ⟨w.heap.size + 1, 2, none⟩ (.slice none 0 0) = w5 at *
  refine bodyPost_ret (v := .tuple #[.agg #[.bool false, .slice none 0 0, .slice none 0 0], .int .i64 80]) (by simp [results, Tryd.results21, go_sem, p0, p1, p2]) rfl ?_
  exact ⟨rfl, HE.out⟩

set_option maxRecDepth 20000 in
set_option maxHeartbeats 4000000 in
/-- The work of Ratio, with what max makes of the exponent and of its opposite. -/
theorem yratio_ok (b : Bool) (a : Option Addr) (c : Nat) (X : List Nat) (ex : Int) (en dn : Nat) (w : World) (hA : Arg w (.slice a X.length c) X) (hT : Tab w) (hf : X.length ≤ 17592186044400) (hE : fitE ex = true) (h1 : max (oe (zz b (val X)) ex) 0 = (en : Int)) (h2 : max (-(oe (zz b (val X)) ex)) 0 = (dn : Int)) :
    Calls Tryd.prog 21 #[.agg #[.bool b, .slice a X.length c, .int .i64 ex]] w (RatR w (omz (zz b (val X)) * 2 ^ en) (2 ^ dn)) := by
  obtain ⟨w0, hw0, hb0, h0, h1'⟩ := enter2 w (.cells #[.bool b, .slice a X.length c, .int .i64 ex] 29) (.cells #[.bool false, .slice none 0 0, .slice none 0 0] 57)
  obtain ⟨k0, k1, k2⟩ := tri8 h0
  have HS0 := hide (show w.heap.size + 2 ≤ w0.heap.size by rw [← hw0, World.size_alloc, World.size_alloc]; omega)
  have HP := yread_ok b a c X ex w0 (hA.below hb0) (hT.below hb0) (by omega) hE
  have HC := hide h1'
  have HB := hide hb0
  have hbz : blen (zz b (val X)).natAbs ≤ 64 * X.length := by
    rw [zz_abs, blen_le_iff, Nat.mul_comm, ← W_pow]; exact val_lt hA.limbs
  have hEr := (fitE_iff ex).1 hE
  have hOE := oe_range (zz b (val X)) ex (by omega)
  have hge : -1099511627776 ≤ oe (zz b (val X)) ex := by unfold oe; split <;> omega
  have hbo : blen (omz (zz b (val X))).natAbs ≤ 17592186044400 * 64 := by
    have h5 := blen_mono (od_le (zz b (val X)).natAbs)
    rw [omz_abs]; omega
  have HBO := hide hbo
  clear h0 h1' hb0 hE hA hT hbz hbo
  generalize oe (zz b (val X)) ex = E at *
  generalize omz (zz b (val X)) = M at *
  have hen : en ≤ 2252899325313024 := by omega
  have hdn : dn ≤ 1099511627776 := by omega
  have wn : IntKind.i64.wrap (-E) = -E := by rw [IntKind.wrap_i64]; omega
  clear hOE hge hEr
  go_enter Tryd.func21, Tryd.ntmps21
  go_wp2_with fail
  refine HP.mono ?_
  rintro e t1 ⟨⟨b1, a1, n1, c1, X1, rfl, rfl, N1, hb1⟩, g1⟩
  obtain ⟨w4, hw4, hb4, h4⟩ := enter1 t1 (.cells #[.bool b1, .slice a1 X1.length c1, .int .i64 E] 92)
  have HC1 := hide (block_upW hb4 (block_upW g1 HC.out))
  have HG := hide (bl_trans8 (bl_trans8 HB.out g1) hb4)
  have HN1 := hide (N1.below hb4)
  have H4 := hide h4
  have HLT := hide (show w.heap.size + 1 < t1.heap.size by have := g1.size; have := HS0.out; omega)
  have KS := hide (fun (W : World) (hg : Below w4.heap.size w4 W) => show W.cell? ⟨t1.heap.size, 0, none⟩ = some (.bool b1) ∧ W.cell? ⟨t1.heap.size, 1, none⟩ = some (.slice a1 X1.length c1) ∧ W.cell? ⟨t1.heap.size, 2, none⟩ = some (.int .i64 E) from tri8 (block_upW hg H4.out))
  have MAN := hide (fun (W : World) => yman_any b1 a1 X1.length c1 W)
  have SHI := hide (fun (W : World) (hg : Below w4.heap.size w4 W) => (by have h := wshift_up b1 (.slice a1 X1.length c1) X1 en W ((HN1.out.below hg).arg) (by have := HN1.out.len 17592186044416 (by have := HBO.out; omega); omega) (by omega); rw [HN1.out.val] at h; exact h.mono fun e w' h => ⟨h.1.base10 (Nat.le_trans HG.out.size hg.size), h.2⟩ : Calls Tryd.prog 56 #[.agg #[.bool b1, .slice a1 X1.length c1], .int .i64 (en : Int)] W fun e w' => ZRes w' w.heap.size e (M * 2 ^ en) ∧ Below W.heap.size W w'))
  have g0 : Below w4.heap.size w4 w4 := Below.refl _ _
  clear g1 hb4 h4 HP HC HB N1
  go_upto_region 4 with fail
  go_cut [6, 5] from 17 to 26 (fun s t wx => OneZ w4 w.heap.size (M * 2 ^ en) s t wx)
  case first =>
    generalize M * 2 ^ en = NN at *
    go_region_held3 (fun w' => w'.cell? ⟨t1.heap.size, 0, none⟩ = some (.bool b1) ∧ w'.cell? ⟨t1.heap.size, 1, none⟩ = some (.slice a1 X1.length c1) ∧ w'.cell? ⟨t1.heap.size, 2, none⟩ = some (.int .i64 E)) (first | (refine KS.out _ ?_; repeat (first | with_reducible assumption | with_reducible exact Below.refl _ _ | with_reducible apply bl_allocZ | with_reducible apply bl_drewZ | (with_reducible refine below_duo ?_ (by omega))))) (first
      | (go_at_call 56; refine (SHI.out _ (by repeat (first | with_reducible exact g1 | with_reducible apply bl_allocZ))).mono ?_; rintro e' t2 ⟨⟨bd, ad, ld, kd, cd, rfl, hs⟩, hb2⟩; have g2 : Below w4.heap.size w4 t2 := bl_trans8 (by repeat (first | with_reducible exact g1 | with_reducible apply bl_allocZ)) hb2; have hle1 := g1.size; (first | (with_reducible have hq := made1Z hb2; obtain ⟨z0c, z1c⟩ := duo hq; have zf := duof hq) | (with_reducible have hq := block_upW hb2 hpA; obtain ⟨z0c, z1c⟩ := duo hq; have zf := duof hq) | skip))
      | (go_at_call 57; refine (MAN.out _).mono ?_; rintro e' t6 ⟨rfl, hb1⟩; have g1 : Below w4.heap.size w4 t6 := bl_trans8 (by repeat (first | with_reducible exact Below.refl _ _ | with_reducible apply bl_allocZ | with_reducible apply bl_drewZ)) hb1; (first | (with_reducible have hpA := made1dZ hb1) | (with_reducible have hpA := made1Z hb1) | skip)))
    all_goals (go_wp2_with fail; go_meet; first
      | with_reducible exact one_z hs g2
      | with_reducible exact one_zs hq hle1 hs g2
      | with_reducible exact one_zs hq (Nat.le_refl _) hs g2)
  case rest =>
    obtain ⟨g6, b6, a6, n6, k6, c6, rfl, rfl, hX6, hZ6, hbx, hge6⟩ := hcut
    have HC6 := hide (block_upW hbx HC1.out)
    have HG6 := hide (bl_trans8 HG.out hbx)
    have H46 := hide (block_upW hbx H4.out)
    have HX6 := hide hX6
    clear MAN SHI KS g0 hX6 HN1 hbx H4 HC1 HG hw4
    obtain ⟨rs, hA6, hz | hz⟩ := hZ6
    · obtain ⟨rfl, hb6, hv6, ht6, hl6⟩ := hz
      have HCH := hide (Chain.one hA6 HG6.out.size)
      have HF6 := hide (And.intro hb6 (And.intro hv6 (And.intro ht6 hl6)))
      have hrl : rs.length ≤ 1048576 := few_ofW ht6 hv6 (by omega)
      clear hA6 hb6 hv6 ht6 hl6
      generalize M * 2 ^ en = NN at *
      have gd : Below wc.heap.size wc wc.drew := (Below.refl _ _).drew
      have g0 : Below wc.drew.heap.size wc.drew wc.drew := Below.refl _ _
      have KS := hide (fun (W : World) (hg : Below wc.drew.heap.size wc.drew W) => show W.cell? ⟨t1.heap.size, 0, none⟩ = some (.bool b1) ∧ W.cell? ⟨t1.heap.size, 1, none⟩ = some (.slice a1 X1.length c1) ∧ W.cell? ⟨t1.heap.size, 2, none⟩ = some (.int .i64 E) from tri8 (block_upW (bl_trans8 gd hg) H46.out))
      have FRO := from_any 1 wc.drew (by decide)
      have LEF := hide (fun (W : World) (v : Value) (hA : Ans W wc.drew.heap.size v (tr [1])) => (by have h := left_any v (tr [1]) dn W (hA.arg (by decide)) (by decide) (by omega); rw [show val (tr [1]) = 1 by rw [val_tr]; rfl, Nat.one_mul] at h; exact h : Calls Tryd.prog 63 #[v, .int .i64 (dn : Int)] W fun e w' => Below W.heap.size W w' ∧ Res w' W.heap.size e (2 ^ dn)))
      generalize (2 : Nat) ^ dn = DD at *
      have HGD := hide gd
      clear gd
      go_upto_region 7 with fail
      go_cut [7, 5] from 31 to 39 (fun s t wx => OneN wc w.heap.size (.slice a6 n6 k6) rs DD s t wx)
      case first =>
        go_region_held3 (fun w' => w'.cell? ⟨t1.heap.size, 0, none⟩ = some (.bool b1) ∧ w'.cell? ⟨t1.heap.size, 1, none⟩ = some (.slice a1 X1.length c1) ∧ w'.cell? ⟨t1.heap.size, 2, none⟩ = some (.int .i64 E)) (first | with_reducible exact KS.out _ g2 | with_reducible exact KS.out _ g1 | with_reducible exact KS.out _ g0) (first
          | (go_at_call 64; refine FRO.mono ?_; rintro e' t6 ⟨⟨v6, rfl, A6⟩, g1⟩)
          | (go_at_call 63; refine (LEF.out t6 v6 A6).mono ?_; rintro e' t7 ⟨hb2, v7, c7, ds, rfl, A7, hres⟩; have g2 := bl_trans8 g1 hb2; obtain ⟨a7, n7, rfl⟩ := A7.shape; have CH2 := (HCH.out.below (bl_trans8 HGD.out g1)).snoc hb2 A7 (Nat.le_trans HG6.out.size (bl_trans8 HGD.out g1).size)))
        all_goals (go_wp2_with fail; go_meet; exact ⟨a7, n7, c7, ds, rfl, rfl, CH2, hres, bl_trans8 HGD.out g2⟩)
      case rest =>
        obtain ⟨a7, n7, c7, ds, rfl, rfl, CH2, hres, G7⟩ := hcut
        have HCH2 := hide CH2
        have HC1 := hide (block_upW G7 HC6.out)
        have HG := hide (bl_trans8 HG6.out G7)
        have HX7 := hide (block_upW G7 HX6.out)
        have hf1 := tri8f HC1.out
        obtain ⟨m0, m1, m2⟩ := tri8 HC1.out
        obtain ⟨x0, x1⟩ := duo HX7.out
        clear g0 KS LEF FRO HCH HC6 HX6 G7 CH2
        rcases hres with ⟨rfl, hv7, ht7, hl7⟩ | ⟨rfl, rfl, hl7⟩
        · have HF7 := hide (And.intro hv7 (And.intro ht7 hl7))
          have hdl : ds.length ≤ 1048576 := few_ofW ht7 hv7 (by omega)
          clear hv7 ht7 hl7
          go_wp2
          have T3 := tri8_all HC1.out (.bool b6) (.slice a6 n6 k6) (.slice a7 ds.length n7)
          have HE := hide (And.intro (HCH2.out.tri8 HC1.out (by decide) (.bool b6) (.slice a6 n6 k6) (.slice a7 ds.length n7)) (below_tri8 HG.out (show w.heap.size ≤ w.heap.size + 1 by omega) (.bool b6) (.slice a6 n6 k6) (.slice a7 ds.length n7)))
          obtain ⟨p0, p1, p2⟩ := tri8 T3
          clear T3
          generalize ((wc.setCell ⟨w.heap.size + 1, 0, none⟩ (.bool b6)).setCell ⟨w.heap.size + 1, 1, none⟩ (.slice a6 n6 k6)).setCell ⟨w.heap.size + 1, 2, none⟩ (.slice a7 ds.length n7) = w5 at *
          refine bodyPost_ret (v := .tuple #[.agg #[.bool b6, .slice a6 n6 k6, .slice a7 ds.length n7], .int .i64 0]) (by simp [results, Tryd.results21, go_sem, p0, p1, p2]) rfl ?_
          exact ⟨⟨_, _, _, _, _, _, _, _, rfl, .inl ⟨rfl, HF6.out.2.2.2, HF7.out.2.2, HF6.out.1, rs, ds, HE.out.1, HF6.out.2.1, HF6.out.2.2.1, HF7.out.1, HF7.out.2.1, hrl, hdl⟩⟩, HE.out.2⟩
        · have HBIG := hide hl7
          clear hl7
          go_wp2
          have T3 := tri8_all HC1.out (.bool false) (.slice none 0 0) (.slice none 0 0)
          have HE := hide (below_tri8 HG.out (show w.heap.size ≤ w.heap.size + 1 by omega) (.bool false) (.slice none 0 0) (.slice none 0 0))
          obtain ⟨p0, p1, p2⟩ := tri8 T3
          clear T3
          generalize ((wc.setCell ⟨w.heap.size + 1, 0, none⟩ (.bool false)).setCell ⟨w.heap.size + 1, 1, none⟩ (.slice none 0 0)).setCell ⟨w.heap.size + 1, 2, none⟩ (.slice none 0 0) = w5 at *
          refine bodyPost_ret (v := .tuple #[.agg #[.bool false, .slice none 0 0, .slice none 0 0], .int .i64 3]) (by simp [results, Tryd.results21, go_sem, p0, p1, p2]) rfl ?_
          exact ⟨⟨_, _, _, _, _, _, _, _, rfl, .inr ⟨rfl, rfl, rfl, rfl, rfl, rfl, rfl, rfl, .inr HBIG.out⟩⟩, HE.out⟩
    · obtain ⟨rfl, _, _, _, hl6⟩ := hz
      have HBIG := hide hl6
      have HC1 := HC6
      have HG := HG6
      have hf1 := tri8f HC1.out
      obtain ⟨m0, m1, m2⟩ := tri8 HC1.out
      clear hA6 hl6
      generalize M * 2 ^ en = NN at *
      generalize (2 : Nat) ^ dn = DD at *
      go_wp2
      have T3 := tri8_all HC1.out (.bool false) (.slice none 0 0) (.slice none 0 0)
      have HE := hide (below_tri8 HG.out (show w.heap.size ≤ w.heap.size + 1 by omega) (.bool false) (.slice none 0 0) (.slice none 0 0))
      obtain ⟨p0, p1, p2⟩ := tri8 T3
      clear T3
      generalize ((wc.setCell ⟨w.heap.size + 1, 0, none⟩ (.bool false)).setCell ⟨w.heap.size + 1, 1, none⟩ (.slice none 0 0)).setCell ⟨w.heap.size + 1, 2, none⟩ (.slice none 0 0) = w5 at *
      refine bodyPost_ret (v := .tuple #[.agg #[.bool false, .slice none 0 0, .slice none 0 0], .int .i64 3]) (by simp [results, Tryd.results21, go_sem, p0, p1, p2]) rfl ?_
      exact ⟨⟨_, _, _, _, _, _, _, _, rfl, .inr ⟨rfl, rfl, rfl, rfl, rfl, rfl, rfl, rfl, .inl HBIG.out⟩⟩, HE.out⟩

end Go.Proofs.YtemajaclpkgpbaaDoor
