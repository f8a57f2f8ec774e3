/- The laws' read, at; the document's numbers at one scale: of, Int. -/
import Derived.Test.YtemajaclpkgpbaaDoorDyDsZ
namespace Go.Proofs.YtemajaclpkgpbaaDoor
open Go.RowKit
open Lm
attribute [local go_sem ↓] Go.wp_at_zero Go.wp_at_succ

set_option maxRecDepth 20000 in
set_option maxHeartbeats 2000000 in
theorem read8_any (b : Bool) (a : Option Addr) (c : Nat) (X : List Nat) (ex : Int) (w : World) (hA : Arg w (.slice a X.length c) X) (hf : X.length ≤ 17592186043904) (hE : fitE ex = true) :
    Calls Tryd.prog 33 #[.agg #[.bool b, .slice a X.length c, .int .i64 ex]] w (DnDone w (omz (zz b (val X))) (oe (zz b (val X)) ex)) := by
  obtain ⟨w0, hw0, hb0, h0, h1⟩ := enter2 w (.cells #[.bool b, .slice a X.length c, .int .i64 ex] 29) (.cells #[.bool false, .slice none 0 0, .int .i64 0] 36)
  have hEr := (fitE_iff ex).1 hE
  have gd : Below w.heap.size w w0.drew := hb0.drew
  have g0 : Below w0.drew.heap.size w0.drew w0.drew := Below.refl _ _
  have HO := rzof_any b _ X w0.drew (hA.below gd) (by omega)
  have hbl : blen (zz b (val X)).natAbs ≤ 1125899906840000 := by
    rw [zz_abs]; have := blen_len8 hA.limbs; omega
  have HD := hide (fun (W : World) (b1 : Bool) (a1 : Option Addr) (n1 c1 : Nat) (hz : Zn W (.agg #[.bool b1, .slice a1 n1 c1]) (zz b (val X))) => rdOf_any b1 a1 n1 c1 (zz b (val X)) ex W hz hbl (by omega) (by omega))
  have KS := hide (fun (W : World) (hg : Below w0.drew.heap.size w0.drew W) => show W.cell? ⟨w.heap.size, 0, none⟩ = some (.bool b) ∧ W.cell? ⟨w.heap.size, 1, none⟩ = some (.slice a X.length c) ∧ W.cell? ⟨w.heap.size, 2, none⟩ = some (.int .i64 ex) from tri8 (block_upW hg (show w0.drew.heap[w.heap.size]? = some (.cells #[.bool b, .slice a X.length c, .int .i64 ex] 29) from h0)))
  have so : ∀ (W : World) (k : Nat) (u : Value) (k' : Nat), (W.setCell ⟨w.heap.size + 1, k, none⟩ u).cell? ⟨w.heap.size, k', none⟩ = W.cell? ⟨w.heap.size, k', none⟩ := fun W k u k' => cell_other8 (by omega)
  have H1 := hide (show w0.drew.heap[w.heap.size + 1]? = some (.cells #[.bool false, .slice none 0 0, .int .i64 0] 36) from h1)
  have HB := hide gd
  clear h0 h1 hb0 gd hE hA hbl
  generalize omz (zz b (val X)) = M at *
  generalize oe (zz b (val X)) ex = E at *
  generalize zz b (val X) = z at *
  go_enter Tryd.func33, Tryd.ntmps33
  go_wp2
  go_region_held3 (fun w' => w'.cell? ⟨w.heap.size, 0, none⟩ = some (.bool b) ∧ w'.cell? ⟨w.heap.size, 1, none⟩ = some (.slice a X.length c) ∧ w'.cell? ⟨w.heap.size, 2, none⟩ = some (.int .i64 ex)) (first | with_reducible exact KS.out _ g2 | with_reducible exact KS.out _ g1 | with_reducible exact KS.out _ g0 | (refine ⟨?_, ?_, ?_⟩ <;> (rw [so, so, so]; first | exact (KS.out _ g2).1 | exact (KS.out _ g2).2.1 | exact (KS.out _ g2).2.2))) (first
    | (go_at_call 49; refine HO.mono ?_; rintro e' t1 ⟨⟨b1, a1, n1, c1, rfl, z1⟩, g1⟩)
    | (go_at_call 48; refine (HD.out t1 b1 a1 n1 c1 z1).mono ?_; rintro e' t2 ⟨⟨b2, a2, n2, c2, rfl, d2⟩, hb2⟩; have g2 := bl_trans8 g1 hb2; have hz := block_upW g2 H1.out; have hf := tri8f hz; obtain ⟨m0, m1, m2⟩ := tri8 hz))
  have T3 := tri8_all hz (.bool b2) (.slice a2 n2 c2) (.int .i64 E)
  have T4 := below_tri8 (bl_trans8 HB.out g2) (show w.heap.size ≤ w.heap.size + 1 by omega) (.bool b2) (.slice a2 n2 c2) (.int .i64 E)
  have T5 := d2.tri8 hz b2 a2 n2 c2 (.int .i64 E)
  obtain ⟨p0, p1, p2⟩ := tri8 T3
  have HE := hide (And.intro T5 T4)
  clear T3 T4 T5 so m0 m1 m2 hf KS g0 g1 g2 hb2 HO hz d2 z1 HD
  generalize ((t2.setCell ⟨w.heap.size + 1, 0, none⟩ (.bool b2)).setCell ⟨w.heap.size + 1, 1, none⟩ (.slice a2 n2 c2)).setCell ⟨w.heap.size + 1, 2, none⟩ (.int .i64 E) = w5 at *
  go_wp2
  refine bodyPost_ret (v := .agg #[.bool b2, .slice a2 n2 c2, .int .i64 E]) (by simp [results, Tryd.results33, go_sem, p0, p1, p2]) rfl ?_
  exact ⟨⟨_, _, _, _, rfl, HE.out.1⟩, HE.out.2⟩

/-- read of an answer. -/
theorem tread8 (b : Bool) (a : Option Addr) (n c : Nat) (ex : Int) (L : Nat) (V : Int) (w : World) (h : G8 w b a n c ex L V) :
    Calls Tryd.prog 33 #[.agg #[.bool b, .slice a n c, .int .i64 ex]] w (fun e w' => (∃ b' a' n' c', e = .returned (.agg #[.bool b', .slice a' n' c', .int .i64 ex]) ∧ T8 w' b' a' n' c' ex L V) ∧ Below w.heap.size w w') := by
  obtain ⟨rs, rfl, hA, hl, hr, _, _, hn, hf⟩ := h
  have hfr := (fitE_iff ex).1 hf
  have hbl : blen (zz b (val rs)).natAbs ≤ 64 * rs.length := by rw [zz_abs]; exact blen_len8 hA.limbs
  refine (read8_any b a c rs ex w hA (by omega) hf).mono fun e w' h => ?_
  rw [hn.stay.1, hn.stay.2] at h
  obtain ⟨⟨b', a', n', c', he, hd⟩, hb⟩ := h
  exact ⟨⟨b', a', n', c', he, _, hd, hr, hn, by omega, by omega, by omega⟩, hb⟩

/-- Is a normal number a multiple of 2^pos? -/
theorem at_iff {L : Nat} {M E V pos : Int} (hr : Rp L M E V) (hn : Nr8 M E) (hp : 0 ≤ pos + L) : (M = 0 ∨ pos ≤ E) ↔ V % ((2 ^ (pos + L).toNat : Nat) : Int) = 0 := by
  obtain ⟨h1, h2⟩ := hr
  constructor
  · rintro (h | h)
    · rw [← h2, h, Int.zero_mul]; simp
    · rw [← h2, show (E + L).toNat = (E - pos).toNat + (pos + L).toNat by omega, Int.pow_add, ← Int.mul_assoc, Int.natCast_pow]
      exact Int.mul_emod_left _ _
  · intro h
    by_cases h0 : M = 0
    · exact .inl h0
    · right
      apply Classical.byContradiction
      intro hc
      have hodd : M.natAbs % 2 = 1 := by
        rcases hn with hn | hn
        · exact absurd hn.1 h0
        · exact hn
      have e1 : (pos + L).toNat = (pos - E).toNat - 1 + 1 + (E + L).toNat := by omega
      have hd := Int.dvd_of_emod_eq_zero h
      obtain ⟨k, hk⟩ := hd
      rw [← h2, e1, Nat.pow_add, Int.natCast_mul, Int.natCast_pow, Int.natCast_pow] at hk
      have hpos : (2 : Int) ^ (E + L).toNat ≠ 0 := by
        have : (0 : Int) < 2 ^ (E + L).toNat := Int.pow_pos (by decide)
        omega
      have hk2 : M = (2 : Int) ^ ((pos - E).toNat - 1 + 1) * k := by
        have : M * 2 ^ (E + L).toNat = (2 : Int) ^ ((pos - E).toNat - 1 + 1) * k * 2 ^ (E + L).toNat := by
          rw [hk]
          have e2 : ((2 : Nat) : Int) = 2 := rfl
          rw [e2]
          rw [Int.mul_assoc, Int.mul_assoc, Int.mul_comm k]
        exact Int.eq_of_mul_eq_mul_right hpos this
      rw [Int.pow_succ, Int.mul_comm ((2 : Int) ^ ((pos - E).toNat - 1)), Int.mul_assoc] at hk2
      omega

set_option maxRecDepth 20000 in
set_option maxHeartbeats 2000000 in
theorem tat8 (b : Bool) (a : Option Addr) (n c : Nat) (E : Int) (L : Nat) (V pos : Int) (w : World) (h : T8 w b a n c E L V) (hp : 0 ≤ pos + L) :
    Calls Tryd.prog 36 #[.agg #[.bool b, .slice a n c, .int .i64 E], .int .i64 pos] w fun e w' => e = .returned (.bool (decide (V % ((2 ^ (pos + L).toNat : Nat) : Int) = 0))) ∧ Below w.heap.size w w' := by
  obtain ⟨M, d, r, q, _⟩ := h
  have hiff := at_iff r q hp
  rw [show decide (V % ((2 ^ (pos + L).toNat : Nat) : Int) = 0) = decide (M = 0 ∨ pos ≤ E) from decide_eq_decide.2 hiff.symm]
  obtain ⟨w0, hw0, hb0, h0⟩ := enter1 w (.cells #[.bool b, .slice a n c, .int .i64 E] 36)
  obtain ⟨k0, k1, k2⟩ := tri8 h0
  have SG := rzsign_any (.agg #[.bool b, .slice a n c]) M w0 (d.below hb0).zn
  have HK0 := hide h0
  have HB := hide hb0
  clear h0 hb0 d r q hiff
  by_cases hM : M = 0
  · have hs : (M.sign == 0) = true := by rw [hM]; rfl
    rw [decide_eq_true (Or.inl hM)]
    generalize M.sign = sg' at *
    clear hM
    go_enter Tryd.func36, Tryd.ntmps36
    go_wp2_with fail
    refine SG.mono ?_
    rintro e t1 ⟨rfl, g1⟩
    obtain ⟨l0, l1, l2⟩ := tri8 (block_upW g1 HK0.out)
    have HG := hide (bl_trans8 HB.out g1)
    clear g1 SG k0 k1 k2
    go_wp2
    go_ret
    exact ⟨rfl, HG.out⟩
  · have hs : (M.sign == 0) = false := by
      rw [beq_eq_false_iff_ne]
      intro h; exact hM (Int.sign_eq_zero_iff_zero.1 h)
    rw [show decide (M = 0 ∨ pos ≤ E) = decide (pos ≤ E) from decide_eq_decide.2 ⟨fun h => h.resolve_left hM, .inr⟩]
    generalize M.sign = sg' at *
    clear hM
    go_enter Tryd.func36, Tryd.ntmps36
    go_wp2_with fail
    refine SG.mono ?_
    rintro e t1 ⟨rfl, g1⟩
    obtain ⟨l0, l1, l2⟩ := tri8 (block_upW g1 HK0.out)
    have HG := hide (bl_trans8 HB.out g1)
    clear g1 SG k0 k1 k2
    go_wp2
    go_ret
    exact ⟨rfl, HG.out⟩

/-- A power of two. -/
theorem tint8 (pos : Int) (L : Nat) (w : World) (h1 : -1099511627776 ≤ pos) (h2 : pos ≤ 1099511627776) (hp : 0 ≤ pos + L) :
    Calls Tryd.prog 37 #[.int .i64 1, .int .i64 pos] w (fun e w' => (∃ b' a' n' c', e = .returned (.agg #[.bool b', .slice a' n' c', .int .i64 pos]) ∧ T8 w' b' a' n' c' pos L ((2 ^ (pos + L).toNat : Nat) : Int)) ∧ Below w.heap.size w w') := by
  refine (rdInt_any 1 pos w (by omega) (by omega) (by omega) (by omega)).mono fun e w' h => ?_
  have ho := omz_odd (z := 1) (by decide) pos
  rw [ho.1, ho.2] at h
  obtain ⟨⟨b', a', n', c', he, hd⟩, hb⟩ := h
  refine ⟨⟨b', a', n', c', he, 1, hd, ⟨hp, ?_⟩, .inr (by decide), ?_, by omega, by omega⟩, hb⟩
  · rw [Int.one_mul, Int.natCast_pow]; rfl
  · exact Nat.le_trans (show blen (1 : Int).natAbs ≤ 1 from (blen_le_iff _ _).2 (by decide)) (by omega)

end Go.Proofs.YtemajaclpkgpbaaDoor
