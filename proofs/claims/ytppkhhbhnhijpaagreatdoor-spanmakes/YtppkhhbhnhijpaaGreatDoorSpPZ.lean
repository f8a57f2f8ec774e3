/- The laws' own. -/
import Derived.Test.YtppkhhbhnhijpaaGreatDoorQZ
namespace Go.Proofs.YtppkhhbhnhijpaaGreatDoor
open Go.RowKit
open Lm
attribute [local go_sem ↓] Go.wp_at_zero Go.wp_at_succ

theorem infoL10 : (Tryz.prog.info? 22).map (fun i => (i.zero, i.size, i.bytes)) = some (some (.slice none 0 0), 1, 24) := by kernel_rfl

theorem news10 {w : World} (l : List Value) (t : TypeId) (j : Nat) (u : Value) (hj : l[j]? = some u) : (w.alloc (.cells l.toArray t)).cell? ((⟨w.heap.size, 0, none⟩ : Addr).add j) = some u := by
  have e : (⟨w.heap.size, 0, none⟩ : Addr).add j = ⟨w.heap.size, j, none⟩ := by
    unfold Addr.add; split <;> simp_all
  rw [e]
  simp only [World.cell?, heap_alloc_new]
  simpa using hj

theorem BK.after10 {base : Nat} {w w5 w' : World} (hb : Below w.heap.size w w5) (hle : base ≤ w.heap.size) (h : BK base w5 w') : BK base w w' :=
  ⟨(hb.mono hle).trans h.below, fun g cs t ht ht2 hc => h.box g cs t ht ht2 (block_upW hb hc)⟩

/-- A new box of a span that is nothing, and nothing put into it. -/
theorem zero_box6 (w : World) (t : TypeId) : ∃ w1 w2, w.alloc (.cells #[.bool false, .slice none 0 0, .int .i64 0, .bool false, .slice none 0 0, .int .i64 0] t) = w1 ∧ (((((w1.setCell ⟨w.heap.size, 0, none⟩ (.bool false)).setCell ⟨w.heap.size, 1, none⟩ (.slice none 0 0)).setCell ⟨w.heap.size, 2, none⟩ (.int .i64 0)).setCell ⟨w.heap.size, 3, none⟩ (.bool false)).setCell ⟨w.heap.size, 4, none⟩ (.slice none 0 0)).setCell ⟨w.heap.size, 5, none⟩ (.int .i64 0) = w2 ∧ w1.heap[w.heap.size]? = some (.cells #[.bool false, .slice none 0 0, .int .i64 0, .bool false, .slice none 0 0, .int .i64 0] t) ∧ w2.heap[w.heap.size]? = some (.cells #[.bool false, .slice none 0 0, .int .i64 0, .bool false, .slice none 0 0, .int .i64 0] t) ∧ Below w.heap.size w w2 := by
  obtain ⟨w1, e1, b1, c1⟩ := enter1 w (.cells #[.bool false, .slice none 0 0, .int .i64 0, .bool false, .slice none 0 0, .int .i64 0] t)
  exact ⟨w1, _, e1, rfl, c1, hexa_all c1 _ _ _ _ _ _, below_hexa b1 (Nat.le_refl _) _ _ _ _ _ _⟩

theorem Aparts.none10 (w : World) (base : Nat) : Aparts w base [] [] := ⟨rfl, fun i hi => absurd hi (by simp), fun i j hi => absurd hi (by simp)⟩

/-- The list of lists that was made, with the room behind it. -/
theorem stx10 {w w5 : World} {base : Nat} {vs : List Value} {rss : List (List Nat)} {g cap : Nat} (hown : w5.ownsRow w.heap.size 22 1 (.slice (some ⟨g, 0, none⟩) vs.length cap) vs.length vs) (hA : Aparts w base vs rss) (hb : Below w.heap.size w w5) : (∃ sp, StX sp w5 base g vs (fun i => rss.getD i [])) ∧ w.heap.size ≤ g := by
  obtain ⟨_, h2⟩ := hown
  rcases h2 with ⟨e, _⟩ | ⟨g', cap', cur, e, hge, hh, _, _, _, ht⟩
  · cases e
  · simp only [Value.slice.injEq, Option.some.injEq, Addr.mk.injEq] at e
    obtain ⟨⟨rfl, _⟩, _⟩ := e
    refine ⟨⟨cur.toList.drop vs.length, ?_, (hA.below hb).row, hA.apart⟩, hge⟩
    rw [hh]
    rw [Nat.mul_one] at ht
    have : vs ++ cur.toList.drop vs.length = cur.toList := by
      conv => lhs; lhs; rw [← ht]
      exact List.take_append_drop _ _
    rw [this]

set_option maxRecDepth 20000 in
set_option maxHeartbeats 4000000 in
theorem own10_2 (gs : Nat) (b1 : Bool) (a1 : Option Addr) (n1 k1 : Nat) (e1 : Int) (b2 : Bool) (a2 : Option Addr) (n2 k2 : Nat) (e2 : Int) (b3 : Bool) (a3 : Option Addr) (n3 k3 : Nat) (e3 : Int) (b4 : Bool) (a4 : Option Addr) (n4 k4 : Nat) (e4 : Int) (base : Nat) (rss : List (List Nat)) (w : World) (hg : w.heap[gs]? = some (.cells #[.bool b1, .slice a1 n1 k1, .int .i64 e1, .bool b2, .slice a2 n2 k2, .int .i64 e2, .bool b3, .slice a3 n3 k3, .int .i64 e3, .bool b4, .slice a4 n4 k4, .int .i64 e4] 33)) (hA : Aparts w base [.slice a1 n1 k1, .slice a2 n2 k2, .slice a3 n3 k3, .slice a4 n4 k4] rss) (hl : ∀ r ∈ rss, r.length ≤ 17592186044000) (hb : base ≤ w.heap.size) :
    Calls Tryz.prog 14 #[.slice (some ⟨gs, 0, none⟩) 2 2] w fun e w' => e = .returned (.bool true) ∧ BK base w w' := by
  obtain ⟨i0, hi, hz0, hz1, hz2⟩ := info_parts infoL10
  have HS := hide hg
  have HA := hide hA
  have HLL := hide hl
  have HBS := hide hb
  have HU : Hid (Below w.heap.size w w) := hide (Below.refl _ _)
  have HO : Hid (w.ownsRow w.heap.size 22 1 (.slice none 0 0) 0 []) := hide ⟨rfl, .inl ⟨rfl, rfl⟩⟩
  clear hg hA hl hb
  go_enter Tryz.func14, Tryz.ntmps14
  go_wp2
  refine wp_loop_rounds 3 ?_
  rw [rounds_succ]
  obtain ⟨u0, hu0, hbu0, qu0⟩ := enter1 w (.cells #[.bool b1, .slice a1 n1 k1, .int .i64 e1, .bool b2, .slice a2 n2 k2, .int .i64 e2] 33)
  obtain ⟨x0, x1, x2, x3, x4, x5⟩ := hexa qu0
  have CS := block_upW HU.out HS.out
  have c0 : w.cell? ⟨gs, 0, none⟩ = some (.bool b1) := by simp [World.cell?, CS]
  have c1 : w.cell? ⟨gs, 1, none⟩ = some (.slice a1 n1 k1) := by simp [World.cell?, CS]
  have c2 : w.cell? ⟨gs, 2, none⟩ = some (.int .i64 e1) := by simp [World.cell?, CS]
  have c3 : w.cell? ⟨gs, 3, none⟩ = some (.bool b2) := by simp [World.cell?, CS]
  have c4 : w.cell? ⟨gs, 4, none⟩ = some (.slice a2 n2 k2) := by simp [World.cell?, CS]
  have c5 : w.cell? ⟨gs, 5, none⟩ = some (.int .i64 e2) := by simp [World.cell?, CS]
  have HBN := hide (bl_trans8 HU.out hbu0)
  have HON := hide (show u0.ownsRow w.heap.size 22 1 (.slice none 0 0) 0 [] by rw [← hu0]; exact HO.out.alloc _)
  clear CS HU HO hbu0 qu0
  go_wp2_with (at_builtin; refine wpList_append_own_at _ rfl _ _ 96 rfl w.heap.size 22 i0 (.slice none 0 0) 1 24 Tryz.underlying96 hi hz0 hz1 hz2 rfl (by decide) (.slice none 0 0) 0 [] rfl (HON.out.alloc _) ⟨u0.heap.size, 0, none⟩ 2 2 [.slice a1 n1 k1, .slice a2 n2 k2] rfl rfl (news10 [.slice a1 n1 k1, .slice a2 n2 k2] 22) (by intro u hu; simp at hu; rcases hu with rfl | rfl <;> rfl) (by unfold maxLen; omega) (by omega) (by have := HBN.out.size; simp; omega) ?_; intro v0 t0 hown hgrow _ _; obtain ⟨g0, cap0, rfl⟩ := own_shape hown (by omega); have HU := hide ((HBN.out.alloc (by have := HBN.out.size; omega) _).grown hgrow (by have := HBN.out.size; simp; omega) (fun g hg => (HON.out.lt g hg).1)); have HO := hide hown; clear hown hgrow HBN HON x0 x1 x2 x3 x4 x5 c0 c1 c2 c3 c4 c5 hu0)
  rw [rounds_succ]
  obtain ⟨u1, hu1, hbu1, qu1⟩ := enter1 t0 (.cells #[.bool b3, .slice a3 n3 k3, .int .i64 e3, .bool b4, .slice a4 n4 k4, .int .i64 e4] 33)
  obtain ⟨x0, x1, x2, x3, x4, x5⟩ := hexa qu1
  have CS := block_upW HU.out HS.out
  have c0 : t0.cell? ⟨gs, 6, none⟩ = some (.bool b3) := by simp [World.cell?, CS]
  have c1 : t0.cell? ⟨gs, 7, none⟩ = some (.slice a3 n3 k3) := by simp [World.cell?, CS]
  have c2 : t0.cell? ⟨gs, 8, none⟩ = some (.int .i64 e3) := by simp [World.cell?, CS]
  have c3 : t0.cell? ⟨gs, 9, none⟩ = some (.bool b4) := by simp [World.cell?, CS]
  have c4 : t0.cell? ⟨gs, 10, none⟩ = some (.slice a4 n4 k4) := by simp [World.cell?, CS]
  have c5 : t0.cell? ⟨gs, 11, none⟩ = some (.int .i64 e4) := by simp [World.cell?, CS]
  have HBN := hide (bl_trans8 HU.out hbu1)
  have HON := hide (show u1.ownsRow w.heap.size 22 1 (.slice (some ⟨g0, 0, none⟩) 2 cap0) 2 [.slice a1 n1 k1, .slice a2 n2 k2] by rw [← hu1]; exact HO.out.alloc _)
  clear CS HU HO hbu1 qu1
  go_wp2_with (at_builtin; refine wpList_append_own_at _ rfl _ _ 96 rfl w.heap.size 22 i0 (.slice none 0 0) 1 24 Tryz.underlying96 hi hz0 hz1 hz2 rfl (by decide) (.slice (some ⟨g0, 0, none⟩) 2 cap0) 2 [.slice a1 n1 k1, .slice a2 n2 k2] rfl (HON.out.alloc _) ⟨u1.heap.size, 0, none⟩ 2 2 [.slice a3 n3 k3, .slice a4 n4 k4] rfl rfl (news10 [.slice a3 n3 k3, .slice a4 n4 k4] 22) (by intro u hu; simp at hu; rcases hu with rfl | rfl <;> rfl) (by unfold maxLen; omega) (by omega) (by have := HBN.out.size; simp; omega) ?_; intro v1 t1 hown hgrow _ _; obtain ⟨g1, cap1, rfl⟩ := own_shape hown (by omega); have HU := hide ((HBN.out.alloc (by have := HBN.out.size; omega) _).grown hgrow (by have := HBN.out.size; simp; omega) (fun g hg => (HON.out.lt g hg).1)); have HO := hide hown; clear hown hgrow HBN HON x0 x1 x2 x3 x4 x5 c0 c1 c2 c3 c4 c5 hu1)
  rw [rounds_succ]
  obtain ⟨⟨sp, hst⟩, hge⟩ := stx10 (vs := [.slice a1 n1 k1, .slice a2 n2 k2, .slice a3 n3 k3, .slice a4 n4 k4]) HO.out HA.out HU.out
  have C := own_anyX sp cap1 g1 base [.slice a1 n1 k1, .slice a2 n2 k2, .slice a3 n3 k3, .slice a4 n4 k4] (fun i => rss.getD i []) t1 hst (by simp) (by
    intro i hi'
    have hi2 : i < rss.length := by rw [← HA.out.len]; exact hi'
    show (rss.getD i []).length ≤ _
    have e : rss.getD i [] = rss[i] := by simp [List.getD, hi2]
    rw [e]
    exact HLL.out _ (List.getElem_mem _)) (by have := HBS.out; omega)
  clear hst hge HO
  go_wp2_with fail
  refine C.mono ?_
  rintro e t9 ⟨rfl, hk⟩
  have HE := hide (BK.after10 HU.out HBS.out hk)
  clear hk C
  go_wp2
  go_ret
  exact ⟨rfl, HE.out⟩

set_option maxRecDepth 20000 in
set_option maxHeartbeats 4000000 in
theorem own10_4 (gs : Nat) (b1 : Bool) (a1 : Option Addr) (n1 k1 : Nat) (e1 : Int) (b2 : Bool) (a2 : Option Addr) (n2 k2 : Nat) (e2 : Int) (b3 : Bool) (a3 : Option Addr) (n3 k3 : Nat) (e3 : Int) (b4 : Bool) (a4 : Option Addr) (n4 k4 : Nat) (e4 : Int) (b5 : Bool) (a5 : Option Addr) (n5 k5 : Nat) (e5 : Int) (b6 : Bool) (a6 : Option Addr) (n6 k6 : Nat) (e6 : Int) (b7 : Bool) (a7 : Option Addr) (n7 k7 : Nat) (e7 : Int) (b8 : Bool) (a8 : Option Addr) (n8 k8 : Nat) (e8 : Int) (base : Nat) (rss : List (List Nat)) (w : World) (hg : w.heap[gs]? = some (.cells #[.bool b1, .slice a1 n1 k1, .int .i64 e1, .bool b2, .slice a2 n2 k2, .int .i64 e2, .bool b3, .slice a3 n3 k3, .int .i64 e3, .bool b4, .slice a4 n4 k4, .int .i64 e4, .bool b5, .slice a5 n5 k5, .int .i64 e5, .bool b6, .slice a6 n6 k6, .int .i64 e6, .bool b7, .slice a7 n7 k7, .int .i64 e7, .bool b8, .slice a8 n8 k8, .int .i64 e8] 33)) (hA : Aparts w base [.slice a1 n1 k1, .slice a2 n2 k2, .slice a3 n3 k3, .slice a4 n4 k4, .slice a5 n5 k5, .slice a6 n6 k6, .slice a7 n7 k7, .slice a8 n8 k8] rss) (hl : ∀ r ∈ rss, r.length ≤ 17592186044000) (hb : base ≤ w.heap.size) :
    Calls Tryz.prog 14 #[.slice (some ⟨gs, 0, none⟩) 4 4] w fun e w' => e = .returned (.bool true) ∧ BK base w w' := by
  obtain ⟨i0, hi, hz0, hz1, hz2⟩ := info_parts infoL10
  have HS := hide hg
  have HA := hide hA
  have HLL := hide hl
  have HBS := hide hb
  have HU : Hid (Below w.heap.size w w) := hide (Below.refl _ _)
  have HO : Hid (w.ownsRow w.heap.size 22 1 (.slice none 0 0) 0 []) := hide ⟨rfl, .inl ⟨rfl, rfl⟩⟩
  clear hg hA hl hb
  go_enter Tryz.func14, Tryz.ntmps14
  go_wp2
  refine wp_loop_rounds 5 ?_
  rw [rounds_succ]
  obtain ⟨u0, hu0, hbu0, qu0⟩ := enter1 w (.cells #[.bool b1, .slice a1 n1 k1, .int .i64 e1, .bool b2, .slice a2 n2 k2, .int .i64 e2] 33)
  obtain ⟨x0, x1, x2, x3, x4, x5⟩ := hexa qu0
  have CS := block_upW HU.out HS.out
  have c0 : w.cell? ⟨gs, 0, none⟩ = some (.bool b1) := by simp [World.cell?, CS]
  have c1 : w.cell? ⟨gs, 1, none⟩ = some (.slice a1 n1 k1) := by simp [World.cell?, CS]
  have c2 : w.cell? ⟨gs, 2, none⟩ = some (.int .i64 e1) := by simp [World.cell?, CS]
  have c3 : w.cell? ⟨gs, 3, none⟩ = some (.bool b2) := by simp [World.cell?, CS]
  have c4 : w.cell? ⟨gs, 4, none⟩ = some (.slice a2 n2 k2) := by simp [World.cell?, CS]
  have c5 : w.cell? ⟨gs, 5, none⟩ = some (.int .i64 e2) := by simp [World.cell?, CS]
  have HBN := hide (bl_trans8 HU.out hbu0)
  have HON := hide (show u0.ownsRow w.heap.size 22 1 (.slice none 0 0) 0 [] by rw [← hu0]; exact HO.out.alloc _)
  clear CS HU HO hbu0 qu0
  go_wp2_with (at_builtin; refine wpList_append_own_at _ rfl _ _ 96 rfl w.heap.size 22 i0 (.slice none 0 0) 1 24 Tryz.underlying96 hi hz0 hz1 hz2 rfl (by decide) (.slice none 0 0) 0 [] rfl (HON.out.alloc _) ⟨u0.heap.size, 0, none⟩ 2 2 [.slice a1 n1 k1, .slice a2 n2 k2] rfl rfl (news10 [.slice a1 n1 k1, .slice a2 n2 k2] 22) (by intro u hu; simp at hu; rcases hu with rfl | rfl <;> rfl) (by unfold maxLen; omega) (by omega) (by have := HBN.out.size; simp; omega) ?_; intro v0 t0 hown hgrow _ _; obtain ⟨g0, cap0, rfl⟩ := own_shape hown (by omega); have HU := hide ((HBN.out.alloc (by have := HBN.out.size; omega) _).grown hgrow (by have := HBN.out.size; simp; omega) (fun g hg => (HON.out.lt g hg).1)); have HO := hide hown; clear hown hgrow HBN HON x0 x1 x2 x3 x4 x5 c0 c1 c2 c3 c4 c5 hu0)
  rw [rounds_succ]
  obtain ⟨u1, hu1, hbu1, qu1⟩ := enter1 t0 (.cells #[.bool b3, .slice a3 n3 k3, .int .i64 e3, .bool b4, .slice a4 n4 k4, .int .i64 e4] 33)
  obtain ⟨x0, x1, x2, x3, x4, x5⟩ := hexa qu1
  have CS := block_upW HU.out HS.out
  have c0 : t0.cell? ⟨gs, 6, none⟩ = some (.bool b3) := by simp [World.cell?, CS]
  have c1 : t0.cell? ⟨gs, 7, none⟩ = some (.slice a3 n3 k3) := by simp [World.cell?, CS]
  have c2 : t0.cell? ⟨gs, 8, none⟩ = some (.int .i64 e3) := by simp [World.cell?, CS]
  have c3 : t0.cell? ⟨gs, 9, none⟩ = some (.bool b4) := by simp [World.cell?, CS]
  have c4 : t0.cell? ⟨gs, 10, none⟩ = some (.slice a4 n4 k4) := by simp [World.cell?, CS]
  have c5 : t0.cell? ⟨gs, 11, none⟩ = some (.int .i64 e4) := by simp [World.cell?, CS]
  have HBN := hide (bl_trans8 HU.out hbu1)
  have HON := hide (show u1.ownsRow w.heap.size 22 1 (.slice (some ⟨g0, 0, none⟩) 2 cap0) 2 [.slice a1 n1 k1, .slice a2 n2 k2] by rw [← hu1]; exact HO.out.alloc _)
  clear CS HU HO hbu1 qu1
  go_wp2_with (at_builtin; refine wpList_append_own_at _ rfl _ _ 96 rfl w.heap.size 22 i0 (.slice none 0 0) 1 24 Tryz.underlying96 hi hz0 hz1 hz2 rfl (by decide) (.slice (some ⟨g0, 0, none⟩) 2 cap0) 2 [.slice a1 n1 k1, .slice a2 n2 k2] rfl (HON.out.alloc _) ⟨u1.heap.size, 0, none⟩ 2 2 [.slice a3 n3 k3, .slice a4 n4 k4] rfl rfl (news10 [.slice a3 n3 k3, .slice a4 n4 k4] 22) (by intro u hu; simp at hu; rcases hu with rfl | rfl <;> rfl) (by unfold maxLen; omega) (by omega) (by have := HBN.out.size; simp; omega) ?_; intro v1 t1 hown hgrow _ _; obtain ⟨g1, cap1, rfl⟩ := own_shape hown (by omega); have HU := hide ((HBN.out.alloc (by have := HBN.out.size; omega) _).grown hgrow (by have := HBN.out.size; simp; omega) (fun g hg => (HON.out.lt g hg).1)); have HO := hide hown; clear hown hgrow HBN HON x0 x1 x2 x3 x4 x5 c0 c1 c2 c3 c4 c5 hu1)
  rw [rounds_succ]
  obtain ⟨u2, hu2, hbu2, qu2⟩ := enter1 t1 (.cells #[.bool b5, .slice a5 n5 k5, .int .i64 e5, .bool b6, .slice a6 n6 k6, .int .i64 e6] 33)
  obtain ⟨x0, x1, x2, x3, x4, x5⟩ := hexa qu2
  have CS := block_upW HU.out HS.out
  have c0 : t1.cell? ⟨gs, 12, none⟩ = some (.bool b5) := by simp [World.cell?, CS]
  have c1 : t1.cell? ⟨gs, 13, none⟩ = some (.slice a5 n5 k5) := by simp [World.cell?, CS]
  have c2 : t1.cell? ⟨gs, 14, none⟩ = some (.int .i64 e5) := by simp [World.cell?, CS]
  have c3 : t1.cell? ⟨gs, 15, none⟩ = some (.bool b6) := by simp [World.cell?, CS]
  have c4 : t1.cell? ⟨gs, 16, none⟩ = some (.slice a6 n6 k6) := by simp [World.cell?, CS]
  have c5 : t1.cell? ⟨gs, 17, none⟩ = some (.int .i64 e6) := by simp [World.cell?, CS]
  have HBN := hide (bl_trans8 HU.out hbu2)
  have HON := hide (show u2.ownsRow w.heap.size 22 1 (.slice (some ⟨g1, 0, none⟩) 4 cap1) 4 [.slice a1 n1 k1, .slice a2 n2 k2, .slice a3 n3 k3, .slice a4 n4 k4] by rw [← hu2]; exact HO.out.alloc _)
  clear CS HU HO hbu2 qu2
  go_wp2_with (at_builtin; refine wpList_append_own_at _ rfl _ _ 96 rfl w.heap.size 22 i0 (.slice none 0 0) 1 24 Tryz.underlying96 hi hz0 hz1 hz2 rfl (by decide) (.slice (some ⟨g1, 0, none⟩) 4 cap1) 4 [.slice a1 n1 k1, .slice a2 n2 k2, .slice a3 n3 k3, .slice a4 n4 k4] rfl (HON.out.alloc _) ⟨u2.heap.size, 0, none⟩ 2 2 [.slice a5 n5 k5, .slice a6 n6 k6] rfl rfl (news10 [.slice a5 n5 k5, .slice a6 n6 k6] 22) (by intro u hu; simp at hu; rcases hu with rfl | rfl <;> rfl) (by unfold maxLen; omega) (by omega) (by have := HBN.out.size; simp; omega) ?_; intro v2 t2 hown hgrow _ _; obtain ⟨g2, cap2, rfl⟩ := own_shape hown (by omega); have HU := hide ((HBN.out.alloc (by have := HBN.out.size; omega) _).grown hgrow (by have := HBN.out.size; simp; omega) (fun g hg => (HON.out.lt g hg).1)); have HO := hide hown; clear hown hgrow HBN HON x0 x1 x2 x3 x4 x5 c0 c1 c2 c3 c4 c5 hu2)
  rw [rounds_succ]
  obtain ⟨u3, hu3, hbu3, qu3⟩ := enter1 t2 (.cells #[.bool b7, .slice a7 n7 k7, .int .i64 e7, .bool b8, .slice a8 n8 k8, .int .i64 e8] 33)
  obtain ⟨x0, x1, x2, x3, x4, x5⟩ := hexa qu3
  have CS := block_upW HU.out HS.out
  have c0 : t2.cell? ⟨gs, 18, none⟩ = some (.bool b7) := by simp [World.cell?, CS]
  have c1 : t2.cell? ⟨gs, 19, none⟩ = some (.slice a7 n7 k7) := by simp [World.cell?, CS]
  have c2 : t2.cell? ⟨gs, 20, none⟩ = some (.int .i64 e7) := by simp [World.cell?, CS]
  have c3 : t2.cell? ⟨gs, 21, none⟩ = some (.bool b8) := by simp [World.cell?, CS]
  have c4 : t2.cell? ⟨gs, 22, none⟩ = some (.slice a8 n8 k8) := by simp [World.cell?, CS]
  have c5 : t2.cell? ⟨gs, 23, none⟩ = some (.int .i64 e8) := by simp [World.cell?, CS]
  have HBN := hide (bl_trans8 HU.out hbu3)
  have HON := hide (show u3.ownsRow w.heap.size 22 1 (.slice (some ⟨g2, 0, none⟩) 6 cap2) 6 [.slice a1 n1 k1, .slice a2 n2 k2, .slice a3 n3 k3, .slice a4 n4 k4, .slice a5 n5 k5, .slice a6 n6 k6] by rw [← hu3]; exact HO.out.alloc _)
  clear CS HU HO hbu3 qu3
  go_wp2_with (at_builtin; refine wpList_append_own_at _ rfl _ _ 96 rfl w.heap.size 22 i0 (.slice none 0 0) 1 24 Tryz.underlying96 hi hz0 hz1 hz2 rfl (by decide) (.slice (some ⟨g2, 0, none⟩) 6 cap2) 6 [.slice a1 n1 k1, .slice a2 n2 k2, .slice a3 n3 k3, .slice a4 n4 k4, .slice a5 n5 k5, .slice a6 n6 k6] rfl (HON.out.alloc _) ⟨u3.heap.size, 0, none⟩ 2 2 [.slice a7 n7 k7, .slice a8 n8 k8] rfl rfl (news10 [.slice a7 n7 k7, .slice a8 n8 k8] 22) (by intro u hu; simp at hu; rcases hu with rfl | rfl <;> rfl) (by unfold maxLen; omega) (by omega) (by have := HBN.out.size; simp; omega) ?_; intro v3 t3 hown hgrow _ _; obtain ⟨g3, cap3, rfl⟩ := own_shape hown (by omega); have HU := hide ((HBN.out.alloc (by have := HBN.out.size; omega) _).grown hgrow (by have := HBN.out.size; simp; omega) (fun g hg => (HON.out.lt g hg).1)); have HO := hide hown; clear hown hgrow HBN HON x0 x1 x2 x3 x4 x5 c0 c1 c2 c3 c4 c5 hu3)
  rw [rounds_succ]
  obtain ⟨⟨sp, hst⟩, hge⟩ := stx10 (vs := [.slice a1 n1 k1, .slice a2 n2 k2, .slice a3 n3 k3, .slice a4 n4 k4, .slice a5 n5 k5, .slice a6 n6 k6, .slice a7 n7 k7, .slice a8 n8 k8]) HO.out HA.out HU.out
  have C := own_anyX sp cap3 g3 base [.slice a1 n1 k1, .slice a2 n2 k2, .slice a3 n3 k3, .slice a4 n4 k4, .slice a5 n5 k5, .slice a6 n6 k6, .slice a7 n7 k7, .slice a8 n8 k8] (fun i => rss.getD i []) t3 hst (by simp) (by
    intro i hi'
    have hi2 : i < rss.length := by rw [← HA.out.len]; exact hi'
    show (rss.getD i []).length ≤ _
    have e : rss.getD i [] = rss[i] := by simp [List.getD, hi2]
    rw [e]
    exact HLL.out _ (List.getElem_mem _)) (by have := HBS.out; omega)
  clear hst hge HO
  go_wp2_with fail
  refine C.mono ?_
  rintro e t9 ⟨rfl, hk⟩
  have HE := hide (BK.after10 HU.out HBS.out hk)
  clear hk C
  go_wp2
  go_ret
  exact ⟨rfl, HE.out⟩

end Go.Proofs.YtppkhhbhnhijpaaGreatDoor
