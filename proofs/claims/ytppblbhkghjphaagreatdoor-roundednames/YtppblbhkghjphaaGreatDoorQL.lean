/- Package div: division by blocks: what its walks want. -/
import Derived.Test.YtppblbhkghjphaaGreatDoorQK
import Derived.Test.YtppblbhkghjphaaGreatDoorQB
import Derived.Test.YtppblbhkghjphaaGreatDoorQJ
namespace Go.Proofs.YtppblbhkghjphaaGreatDoor
open Go.RowKit
open Lm

/-- A block of the quotient's limbs at once. -/
theorem ByRel.block {bq qo m bu uo n VV : Nat} {Q U : List Nat} {w wr w2 : World} {k d : Nat} {Q' U' Q2 U2 : List Nat} (h : ByRel bq qo m bu uo n VV Q U w wr (k + d) Q' U') (g : ByRel bq (qo + k) d bu (uo + k) n VV Q' U' wr w2 0 Q2 U2)
    (hk : k + d ≤ m) (hq : qo + m ≤ Q.length) (hu : uo + (m + n) ≤ U.length) : ByRel bq qo m bu uo n VV Q U w w2 k Q2 U2 := by
  have hlQ := h.outQ.len
  have hlU := h.outU.len
  have hlQ2 := g.outQ.len
  have hlU2 := g.outU.len
  obtain ⟨r, rfl⟩ : ∃ r, m = k + d + r := ⟨m - (k + d), by omega⟩
  have e1 := h.eq
  have e2 := g.eq
  have t1 := h.top
  have t2 := g.top
  have l2 := g.lt
  rw [show k + d + r - (k + d) = r by omega] at e1 t1
  rw [Nat.sub_zero] at e2 t2
  rw [Nat.add_zero, Nat.add_zero] at e2
  rw [Nat.add_zero] at t2 l2
  have p1 := g.outQ
  have p2 := g.outU
  rw [Nat.add_zero] at p1 p2
  refine ⟨?_, g.limQ, g.blkQ, ?_, g.limU, g.blkU, h.fr.trans g.fr, ?_, l2, ?_⟩
  · exact (h.outQ.wider (by omega) (Nat.le_refl _)).trans (p1.wider (Nat.le_refl _) (by omega))
  · exact (h.outU.wider (by omega) (Nat.le_refl _)).trans (p2.wider (Nat.le_refl _) (by omega))
  · rw [show k + d + r - k = d + r by omega, sv_split Q2 (qo + k) d r (by omega), p1.sv (qo + k + d) r (by omega)]
    rw [show n + (d + r) = d + (n + r) by omega, sv_split U (uo + k) d (n + r) (by omega), ← h.outU.sv (uo + k) d (by omega)]
    rw [show qo + (k + d) = qo + k + d by omega, show uo + (k + d) = uo + k + d by omega] at e1
    rw [← e1]
    rw [show n + d = d + n by omega, sv_split U' (uo + k) d n (by omega)] at e2
    generalize sv Q2 (qo + k) d = a at *
    generalize sv U2 (uo + k) n = b at *
    generalize sv U' (uo + k) d = c at *
    generalize sv U' (uo + k + d) n = f at *
    generalize sv Q' (qo + k + d) r = x at *
    generalize (18446744073709551616 : Nat) ^ d = W at *
    rw [Nat.add_mul, Nat.mul_add, Nat.mul_assoc]
    omega
  · rw [show k + d + r - k = d + r by omega, sv_split U2 (uo + k + n) d r (by omega), t2, p2.sv (uo + k + n + d) r (by omega), show uo + k + n + d = uo + (k + d) + n by omega, t1, Nat.mul_zero]

theorem Tab.fr2 {w w' : World} {b1 b2 : Nat} (h : Tab w) (hf : Fr2 b1 b2 w w') (h1 : 0 ≠ b1) (h2 : 0 ≠ b2) : Tab w' :=
  ⟨Nat.lt_of_lt_of_le h.1 hf.size, fun i hi => by rw [World.cell?_of_block (w := w) (hf.block _ h.1 h1 h2)]; exact h.2 i hi⟩

theorem val_same : ∀ (a b : List Nat), a.length = b.length → Limbs a → Limbs b → val a = val b → a = b
  | [], [], _, _, _, _ => rfl
  | [], _ :: _, h, _, _, _ => by simp at h
  | _ :: _, [], h, _, _, _ => by simp at h
  | x :: a, y :: b, h, ha, hb, e => by
    have h1 := ha x (by simp)
    have h2 := hb y (by simp)
    simp only [val] at e
    have h3 : x = y := by omega
    have h4 : val a = val b := by omega
    rw [h3, val_same a b (by simpa using h) (fun z hz => ha z (by simp [hz])) (fun z hz => hb z (by simp [hz])) h4]

/-- What a block of limbs holds, read off the world. -/
def rd (w : World) (b : Nat) : List Nat := match w.heap[b]? with
  | some (.cells a _ _) => a.toList.map fun v => (intOf v).toNat
  | _ => []

theorem rd_blk {w : World} {b : Nat} {Q : List Nat} (h : Blk w b Q) : rd w b = Q := by
  unfold Blk at h
  unfold rd
  rw [h]
  simp only [List.map_map]
  have : ((fun v => (intOf v).toNat) ∘ lv) = id := by
    funext z
    simp [lv, intOf]
  rw [this]
  simp

/-- What guessBlock leaves. -/
def GuessDone (bq qo bu uo m VV : Nat) (Q U : List Nat) (w : World) (e : Ending) (w' : World) : Prop :=
  e = .returned (.tuple #[]) ∧ ∃ Q' U' : List Nat, Out Q Q' qo (qo + m) ∧ Limbs Q' ∧ Blk w' bq Q' ∧ Out U U' uo (uo + (m + m)) ∧ Limbs U' ∧ Blk w' bu U' ∧ Fr2 bq bu w w' ∧
    sv Q' qo m * VV + sv U' uo (m + m) = sv U uo (m + m) ∧ (sv U' uo (m + m) < VV ∨ sv Q' qo m = 18446744073709551616 ^ m - 1)

theorem DivDone.guess {bq qo bu uo m VV : Nat} {Q U : List Nat} {w w' : World} {e : Ending} (h : DivDone bq qo m bu uo m VV Q U w e w') (hu : uo + (m + m) ≤ U.length) : GuessDone bq qo bu uo m VV Q U w e w' := by
  obtain ⟨he, Q', U', h⟩ := h
  have e1 := h.eq
  have e2 := h.top
  have e3 := h.lt
  have o1 := h.outQ
  have o2 := h.outU
  simp only [Nat.add_zero, Nat.sub_zero] at e1 e2 e3 o1 o2
  have e4 := sv_split U' uo m m (by rw [o2.len]; omega)
  rw [e2, Nat.mul_zero, Nat.add_zero] at e4
  exact ⟨he, Q', U', o1, h.limQ, h.blkQ, o2, h.limU, h.blkU, h.fr, by rw [e4]; exact e1, .inl (by rw [e4]; exact e3)⟩

theorem GuessDone.same {bq qo bu uo m VV : Nat} {Q U : List Nat} {w wn w' : World} {e : Ending} (h : GuessDone bq qo bu uo m VV Q U wn e w') (hs : Same w wn) : GuessDone bq qo bu uo m VV Q U w e w' := by
  obtain ⟨he, Q', U', h1, h2, h3, h4, h5, h6, h7, h8⟩ := h
  exact ⟨he, Q', U', h1, h2, h3, h4, h5, h6, (Fr.left2 (Fr.same (bz := bq) hs)).trans h7, h8⟩

/-- 'divide' works for this divisor, wherever the lists lie. -/
def DivideOk (V : List Nat) : Prop :=
  ∀ (bq qo m qcap bu uo ucap bv ov vcap : Nat) (Q U : List Nat) (w : World), Blk w bq Q → Limbs Q → Blk w bu U → Limbs U → Arg w (.slice (some ⟨bv, ov, none⟩) V.length vcap) V → Tab w → 0 ≠ bq → 0 ≠ bu →
    bq ≠ bu → bv ≠ bq → bv ≠ bu → qo + m ≤ Q.length → m ≤ qcap → qcap ≤ 9223372036854775807 → uo + (m + V.length) ≤ U.length → m + V.length ≤ ucap → ucap ≤ 9223372036854775807 → m + V.length ≤ 35184372088831 → sv U (uo + m) V.length < val V →
    Calls Tryz.prog 71 #[.slice (some ⟨bq, qo, none⟩) m qcap, .slice (some ⟨bu, uo, none⟩) (m + V.length) ucap, .slice (some ⟨bv, ov, none⟩) V.length vcap] w (DivDone bq qo m bu uo V.length (val V) Q U w)

/-- The quotient's limbs all ones, the divisor once more in the rest. -/
theorem ones_end {Q' U' : List Nat} {qo uo m VV lo hi X cy : Nat} (hQ : sv Q' qo m + 1 = 18446744073709551616 ^ m) (hlo : lo < 18446744073709551616 ^ m) (hV : VV < 18446744073709551616 ^ m) (hX : X = lo + 18446744073709551616 ^ m * hi) (he : hi = VV) (hm : 1 ≤ m)
    (hp : sv U' uo (m + m) + cy * 18446744073709551616 ^ (m + m) = lo + VV) : sv Q' qo m * VV + sv U' uo (m + m) = X := by
  subst he
  rw [hX, ← hQ]
  rw [Nat.pow_add] at hp
  have h2 : 2 ≤ 18446744073709551616 ^ m := by
    have := Nat.pow_le_pow_right (n := 18446744073709551616) (by omega) hm
    omega
  rw [← hQ] at hlo hV hp h2
  generalize sv Q' qo m = a at *
  generalize sv U' uo (m + m) = u at *
  have h3 : cy = 0 := by
    rcases Nat.eq_zero_or_pos cy with h | h
    · exact h
    · have h4 : 1 * ((a + 1) * (a + 1)) ≤ cy * ((a + 1) * (a + 1)) := Nat.mul_le_mul_right _ h
      have h5 : 2 * (a + 1) ≤ (a + 1) * (a + 1) := Nat.mul_le_mul_right _ h2
      omega
  subst h3
  rw [Nat.add_mul, Nat.one_mul]
  omega

/-- What byBlock's walk carries: how far the guess is, and what is left. -/
structure BlkRel (bq qo m bu uo n VV q0 : Nat) (Q U : List Nat) (w wr : World) (un : Nat) (Q' U' : List Nat) : Prop where
  outQ : Out Q Q' qo (qo + m)
  limQ : Limbs Q'
  blkQ : Blk wr bq Q'
  outU : Out U U' uo (uo + (m + n))
  limU : Limbs U'
  blkU : Blk wr bu U'
  fr : Fr2 bq bu w wr
  eq : sv U' uo (m + n) + sv Q' qo m * VV = sv U uo (m + n) + un * 18446744073709551616 ^ (m + n)
  ge : sv U uo (m + n) / VV ≤ sv Q' qo m

theorem BlkRel.done {bq qo m bu uo n VV q0 : Nat} {Q U : List Nat} {w wr : World} {Q' U' : List Nat} (h : BlkRel bq qo m bu uo n VV q0 Q U w wr 0 Q' U') (hV : 0 < VV) (hVn : VV ≤ 18446744073709551616 ^ n) (hu : uo + (m + n) ≤ U.length) :
    DivDone bq qo m bu uo n VV Q U w (.returned (.tuple #[])) wr := by
  have e1 := h.eq
  obtain ⟨e2, e3⟩ := block_end hV (by simpa using e1) h.ge
  have e4 : sv U' uo (m + n) < VV := by rw [e3]; exact Nat.mod_lt _ hV
  have e5 := sv_split U' uo n m (by rw [h.outU.len]; omega)
  have e6 : sv U' (uo + n) m = 0 := by
    rcases Nat.eq_zero_or_pos (sv U' (uo + n) m) with h0 | h0
    · exact h0
    · have := Nat.mul_le_mul_left (18446744073709551616 ^ n) h0
      rw [Nat.add_comm n m] at e5
      omega
  rw [e6, Nat.mul_zero, Nat.add_zero, Nat.add_comm n m] at e5
  refine ⟨rfl, Q', U', ?_, h.limQ, h.blkQ, ?_, h.limU, h.blkU, h.fr, ?_, ?_, ?_⟩
  · rw [Nat.add_zero]; exact h.outQ
  · rw [Nat.add_zero]; exact h.outU
  · rw [Nat.add_zero, Nat.add_zero, Nat.sub_zero, ← e5, Nat.add_comm n m, Nat.add_comm]; simpa using e1
  · rw [Nat.add_zero, ← e5]; exact e4
  · rw [Nat.add_zero, Nat.sub_zero]; exact e6

/-- One less, the divisor added again. -/
theorem BlkRel.next {bq qo m bu uo n VV q0 : Nat} {Q U : List Nat} {w wr w2 : World} {Q' U' Q2 U2 : List Nat} {c b1 : Nat} (h : BlkRel bq qo m bu uo n VV q0 Q U w wr 1 Q' U') (hV : 0 < VV)
    (o1 : Out Q' Q2 qo (qo + m)) (l1 : Limbs Q2) (k1 : Blk w2 bq Q2) (m1 : sv Q2 qo m + 1 = sv Q' qo m + b1 * 18446744073709551616 ^ m) (hb : b1 ≤ 1)
    (o2 : Out U' U2 uo (uo + (m + n))) (l2 : Limbs U2) (k2 : Blk w2 bu U2) (m2 : sv U2 uo (m + n) + c * 18446744073709551616 ^ (m + n) = sv U' uo (m + n) + VV) (hc : c ≤ 1) (hf : Fr2 bq bu wr w2) :
    BlkRel bq qo m bu uo n VV q0 Q U w w2 (1 - c) Q2 U2 ∧ sv Q2 qo m < sv Q' qo m := by
  have hX := sv_lt h.limU uo (m + n)
  have t := block_turn hV h.eq hX
  have hq1 : 1 ≤ sv Q' qo m := Nat.lt_of_le_of_lt (Nat.zero_le _) t
  have hX2 := sv_lt l1 qo m
  have hX3 := sv_lt h.limQ qo m
  have hq2 : sv Q2 qo m = sv Q' qo m - 1 := by
    rcases (by omega : b1 = 0 ∨ b1 = 1) with rfl | rfl
    · omega
    · omega
  have e := block_next hq1 h.eq m2 hc
  refine ⟨⟨h.outQ.trans o1, l1, k1, h.outU.trans o2, l2, k2, h.fr.trans hf, by rw [hq2]; exact e, by rw [hq2]; exact Nat.le_sub_one_of_lt t⟩, by omega⟩

/-- Behind the guess, the product with the low limbs taken away. -/
theorem BlkRel.start {bq qo m bu uo n r VH VL : Nat} {Q U : List Nat} {w w2 : World} {Q' U' U2 : List Nat} {un : Nat} (hn : n = r + m)
    (o1 : Out Q Q' qo (qo + m)) (l1 : Limbs Q') (k1 : Blk w2 bq Q') (o2 : Out U U' (uo + r) (uo + r + (m + m))) (lU : Limbs U) (hu : uo + (m + n) ≤ U.length)
    (e1 : sv Q' qo m * VH + sv U' (uo + r) (m + m) = sv U (uo + r) (m + m)) (hc : sv U' (uo + r) (m + m) < VH ∨ sv Q' qo m = 18446744073709551616 ^ m - 1)
    (o3 : Out U' U2 uo (uo + (m + n))) (l3 : Limbs U2) (k3 : Blk w2 bu U2) (e3 : sv U2 uo (m + n) + sv Q' qo m * VL = sv U' uo (m + n) + un * 18446744073709551616 ^ (m + n)) (hf : Fr2 bq bu w w2)
    (hV : 0 < VL + 18446744073709551616 ^ r * VH) (hlt : sv U (uo + m) n < VL + 18446744073709551616 ^ r * VH) : BlkRel bq qo m bu uo n (VL + 18446744073709551616 ^ r * VH) 0 Q U w w2 un Q' U2 := by
  subst hn
  have s1 := sv_split U uo r (m + m) (by omega)
  have s2 := sv_split U' uo r (m + m) (by rw [o2.len]; omega)
  rw [show r + (m + m) = m + (r + m) by omega] at s1 s2
  rw [o2.sv uo r (by omega)] at s2
  have s3 := sv_split U uo m (r + m) (by omega)
  have s4 := sv_lt lU uo r
  have s5 := sv_lt lU uo m
  rw [s2] at e3
  have eU : sv U uo (m + (r + m)) = sv U (uo + r) (m + m) * 18446744073709551616 ^ r + sv U uo r := by rw [s1, Nat.mul_comm, Nat.add_comm]
  have eV : VL + 18446744073709551616 ^ r * VH = VH * 18446744073709551616 ^ r + VL := by rw [Nat.mul_comm, Nat.add_comm]
  have hUV : sv U uo (m + (r + m)) < (VL + 18446744073709551616 ^ r * VH) * 18446744073709551616 ^ m := by
    rw [s3]
    have := Nat.mul_le_mul_left (18446744073709551616 ^ m) (Nat.succ_le_of_lt hlt)
    rw [Nat.succ_eq_add_one, Nat.mul_add, Nat.mul_one, Nat.mul_comm _ (VL + 18446744073709551616 ^ r * VH)] at this
    omega
  refine ⟨o1, l1, k1, (o2.wider (by omega) (by omega)).trans o3, l3, k3, hf, ?_, ?_⟩
  · exact block_take eU eV e1 (by rw [e3, Nat.mul_comm (sv U' (uo + r) (m + m))]; omega)
  · exact block_first eU s4 eV hV e1 hc hUV

end Go.Proofs.YtppblbhkghjphaaGreatDoor

/- Package div: guessBlock. -/
namespace Go.Proofs.YtppblbhkghjphaaGreatDoor
open Go.RowKit
open Lm
attribute [local go_sem ↓] Go.wp_at_zero Go.wp_at_succ

set_option maxRecDepth 20000 in
set_option maxHeartbeats 1000000 in
theorem guessBlock_any (bq qo qcap bu uo ucap bv ov vcap m : Nat) (Q U V : List Nat) (w : World) (hok : DivideOk V)
    (hQ : Blk w bq Q) (lQ : Limbs Q) (hU : Blk w bu U) (lU : Limbs U) (hV : Arg w (.slice (some ⟨bv, ov, none⟩) m vcap) V) (hT : Tab w) (t1 : 0 ≠ bq) (t2 : 0 ≠ bu) (lV : V.length = m) (hm : 0 < m)
    (n1 : bq ≠ bu) (n2 : bv ≠ bq) (n3 : bv ≠ bu) (q1 : qo + m ≤ Q.length) (q2 : m ≤ qcap) (q3 : qcap ≤ 9223372036854775807) (u1 : uo + (m + m) ≤ U.length) (u2 : m + m ≤ ucap) (u3 : ucap ≤ 9223372036854775807)
    (few : m + m ≤ 35184372088831) (hle : sv U (uo + m) m ≤ val V) :
    Calls Tryz.prog 105 #[.slice (some ⟨bq, qo, none⟩) m qcap, .slice (some ⟨bu, uo, none⟩) (m + m) ucap, .slice (some ⟨bv, ov, none⟩) m vcap] w (GuessDone bq qo bu uo m (val V) Q U w) := by
  have HD : Hid (∀ wn, Same w wn → sv U (uo + m) m < val V → Calls Tryz.prog 71 #[.slice (some ⟨bq, qo, none⟩) m qcap, .slice (some ⟨bu, uo, none⟩) (m + m) ucap, .slice (some ⟨bv, ov, none⟩) m vcap] wn (DivDone bq qo m bu uo m (val V) Q U wn)) := by
    intro wn hs h
    have H := hok bq qo m qcap bu uo ucap bv ov vcap Q U wn (hQ.below (hs.below _) hQ.lt) lQ (hU.below (hs.below _) hU.lt) lU (by rw [lV]; exact hV.below (hs.below _)) (hT.below (hs.below _)) t1 t2 n1 n2 n3 q1 q2 q3 (by rw [lV]; exact u1) (by rw [lV]; exact u2) u3 (by rw [lV]; exact few) (by rw [lV]; exact h)
    rw [lV] at H
    exact H
  obtain ⟨_, _, e0, hvc, hvm, hlv⟩ := hV.form
  rw [lV] at e0 hvc
  cases e0
  have hcv : ∀ k, k < m → w.cell? ⟨bv, ov + k, none⟩ = some (.int .u64 ((V.getD k 0 : Nat) : Int)) := by
    intro k hk
    rcases hlv with h0 | ⟨b, off, e, hc⟩
    · rw [h0] at lV; simp at lV; omega
    · cases e; exact hc k (by omega)
  have HVV := hide (And.intro hV lV)
  have hcu : ¬ ucap = m := by omega
  have y1 : m + m - m = m := by omega
  have HLE := hide hle
  have HQ := hide (And.intro hQ lQ)
  have HU := hide (And.intro hU lU)
  clear hok hlv hV hT hle hQ lQ lU lV
  go_enter Tryz.func105, Tryz.ntmps105
  go_wp2
  go_loopw [15] (fun i wr => ∃ k : Nat, k ≤ m ∧ i = .int .i64 k ∧ Same w wr ∧ ∀ i, i < k → U.getD (uo + m + i) 0 = V.getD i 0) (fun i _ => m - (intOf i).toNat)
  case atStart => exact ⟨0, Nat.zero_le _, rfl, Same.refl _, fun i hi => absurd hi (Nat.not_lt_zero _)⟩
  case round =>
    obtain ⟨k, hk, rfl, hsame, hv⟩ := hrel
    have HEQ := hide hv
    clear hv
    by_cases hkl : k < m
    · have hck : wr.cell? ⟨bv, ov + k, none⟩ = some (.int .u64 ((V.getD k 0 : Nat) : Int)) := by
        unfold World.cell?; rw [hsame.heap]; exact hcv k hkl
      have hcu2 : wr.cell? ⟨bu, uo + m + k, none⟩ = some (.int .u64 ((U.getD (uo + m + k) 0 : Nat) : Int)) := (HU.out.1.below (hsame.below _) HU.out.1.lt).cell _ (by omega)
      clear hcv
      have hi1 : (0 : Int) ≤ (k : Int) := by omega
      have hi2 : (k : Int) < (m : Int) := by omega
      by_cases hxy : U.getD (uo + m + k) 0 = V.getD k 0
      · have HN : Hid (∀ i, i < k + 1 → U.getD (uo + m + i) 0 = V.getD i 0) := hide (fun i hi => by
          rcases (by omega : i < k ∨ i = k) with h | h
          · exact HEQ.out i h
          · subst h; exact hxy)
        rw [hxy] at hcu2
        generalize V.getD k 0 = y at *
        clear hxy HEQ
        go_wp2
        go_quiet (fail)
        go_wp2
        go_roundw
        case rel => exact ⟨k + 1, by omega, by go_num, hsame.drewN _, HN.out⟩
        case measure => simp [intOf]; omega
      · have hne : (((U.getD (uo + m + k) 0 : Nat) : Int) != ((V.getD k 0 : Nat) : Int)) = true := by rw [bne_iff_ne]; omega
        have hlt : sv U (uo + m) m < val V := by
          refine Nat.lt_of_le_of_ne HLE.out fun e => hxy ?_
          have e2 := val_same (seg U (uo + m) m) V (by rw [seg_length _ _ _ (by omega), HVV.out.2]) (limbs_seg HU.out.2 _ _) HVV.out.1.limbs e
          rw [← seg_getD U (uo + m) m k hkl, e2]
        have HDD := hide (fun wn (hs : Same w wn) => HD.out wn hs hlt)
        have HSM := hide hsame
        clear hxy HEQ hlt HD
        generalize U.getD (uo + m + k) 0 = x at *
        generalize V.getD k 0 = y at *
        go_wp2
        go_quiet (fail)
        go_wp2_with fail
        refine (HDD.out _ (HSM.out.drewN _)).mono ?_
        intro e w2 hd
        have HG := hide ((hd.guess u1).same (HSM.out.drewN _))
        have he := hd.1
        subst he
        clear hd HDD
        go_wp2
        go_end0
        exact HG.out
    · have ek : k = m := by omega
      subst ek
      have HSM := hide hsame
      have HBQ := hide (HQ.out.1.below (hsame.below _) HQ.out.1.lt)
      have HBU := hide (HU.out.1.below (hsame.below _) HU.out.1.lt)
      clear hcv HD hsame
      go_wp2
      rename World => w1
      go_loopw [34] (fun i wq => ∃ (t : Nat) (Q' : List Nat), t ≤ k ∧ i = .int .i64 t ∧ Out Q Q' qo (qo + t) ∧ Limbs Q' ∧ Blk wq bq Q' ∧ Fr bq w1 wq ∧ sv Q' qo t + 1 = 18446744073709551616 ^ t) (fun i _ => k - (intOf i).toNat)
      case atStart => exact ⟨0, Q, Nat.zero_le _, rfl, Out.refl _ _ _, HQ.out.2, HBQ.out, Fr.refl _ _, by rw [sv_zero]⟩
      case round =>
        obtain ⟨t, Q', ht, rfl, o1, l1, b1, f1, s1⟩ := hrel
        by_cases htl : t < k
        · have hfr := b1.free (qo + t)
          have hco := b1.cell (qo + t) (by rw [o1.len]; omega)
          have HX : Hid (Out Q (Q'.set (qo + t) 18446744073709551615) qo (qo + (t + 1)) ∧ Limbs (Q'.set (qo + t) 18446744073709551615) ∧ Blk (wr.setCell ⟨bq, qo + t, none⟩ (.int .u64 ((18446744073709551615 : Nat) : Int))) bq (Q'.set (qo + t) 18446744073709551615) ∧ Fr bq w1 (wr.setCell ⟨bq, qo + t, none⟩ (.int .u64 ((18446744073709551615 : Nat) : Int))) ∧ sv (Q'.set (qo + t) 18446744073709551615) qo (t + 1) + 1 = 18446744073709551616 ^ (t + 1)) := by
            refine hide ⟨(o1.wider (Nat.le_refl _) (by omega)).set _ _ (by omega) (by omega), limbs_set l1 _ _ (by omega), b1.set _ _, f1.setCell _ _, ?_⟩
            rw [sv_set_succ Q' qo t _ (by rw [o1.len]; omega), Nat.pow_succ, ← s1]
            omega
          generalize Q'.getD (qo + t) 0 = oq at *
          clear o1 l1 b1 f1 s1
          go_wp2
          go_roundw
          case rel => exact ⟨t + 1, _, by omega, by go_num, HX.out⟩
          case measure => simp [intOf]; omega
        · have et : t = k := by omega
          subst et
          have hbu := HBU.out.frb f1 (Ne.symm n1)
          have hrun := fun ty => clear_run bu (uo + t) t (ucap - t) U wr ty hbu (by omega) hm
          have e1 := lay_out (List.replicate t 0) U (uo + t)
          have e2 := lay_sv (List.replicate t 0) U (uo + t) (by simp; omega)
          have e3 := lay_limbs (List.replicate t 0) (limbs_replicate _) U (uo + t) HU.out.2
          have hb2 := Blk.setCells (List.replicate t 0) (uo + t) hbu
          have hf2 := (Fr.refl bu wr).setCells ((List.replicate t 0).map lv) (uo + t)
          have hbq2 := b1.frb hf2 n1
          rw [List.length_replicate] at e1 e2
          rw [val_replicate] at e2
          obtain ⟨w3, hw3⟩ : ∃ w3, w3 = wr.setCells bu (uo + t) ((List.replicate t 0).map lv) := ⟨_, rfl⟩
          rw [← hw3] at hrun hb2 hf2 hbq2
          generalize lay U (uo + t) (List.replicate t 0) = U2 at *
          have F3 := hide ((Fr.left2 (b2 := bu) (Fr.same (bz := bq) HSM.out)).trans (f1.left2.trans hf2.right2))
          have HP := dplus_any bu uo (t + t) ucap U2 _ V w3 hb2 e3 ((HVV.out.1.below (HSM.out.below _)).fr2 (f1.left2.trans hf2.right2) n2 n3) (aside_of n3 _ _) (by rw [e1.len]; omega) u2 u3 (by rw [HVV.out.2]; omega)
          have HX := hide (And.intro o1 (And.intro l1 (And.intro hbq2 (And.intro s1 (And.intro e1 e2)))))
          clear hw3 o1 l1 b1 f1 s1 hbu e1 e2 e3 hb2 hf2 hbq2
          go_wp2_with fail
          refine HP.mono ?_
          rintro e w4 ⟨c4, U4, hc4, rfl, o4, l4, b4, f4, s4⟩
          have HG : Hid (GuessDone bq qo bu uo t (val V) Q U w (.returned (.tuple #[])) w4) := by
            obtain ⟨o1, l1, hbq2, s1, e1, e2⟩ := HX.out
            have hhi : sv U (uo + t) t = val V := by
              unfold sv
              rw [list_ext0 (a := seg U (uo + t) t) (b := V) (by rw [seg_length _ _ _ (by omega), HVV.out.2]) (fun i hi => by
                rw [seg_length _ _ _ (by omega)] at hi
                rw [seg_getD _ _ _ _ hi]; exact HEQ.out i hi)]
            have s5 := sv_split U2 uo t t (by rw [e1.len]; omega)
            rw [e2, Nat.mul_zero, Nat.add_zero, e1.sv uo t (by omega)] at s5
            rw [s5] at s4
            refine hide ⟨rfl, Q', U4, o1, l1, hbq2.frb f4 n1, (e1.wider (by omega) (by omega)).trans o4, l4, b4, F3.out.trans f4.right2, ?_, .inr (by omega)⟩
            exact ones_end s1 (sv_lt HU.out.2 _ _) (by have := val_lt HVV.out.1.limbs; rw [HVV.out.2] at this; exact this) (sv_split U uo t t (by omega)) hhi hm s4
          clear o4 l4 b4 f4 s4 HP HX
          go_wp2
          go_end0
          exact HG.out

end Go.Proofs.YtppblbhkghjphaaGreatDoor

/- Package div: byBlock. -/
namespace Go.Proofs.YtppblbhkghjphaaGreatDoor
open Go.RowKit
open Lm
attribute [local go_sem ↓] Go.wp_at_zero Go.wp_at_succ

theorem Fr2.drew {b1 b2 : Nat} {a w : World} (h : Fr2 b1 b2 a w) : Fr2 b1 b2 a w.drew := ⟨h.os, h.tape, h.output, h.size, h.block⟩
theorem Fr2.undrew {b1 b2 : Nat} {a w : World} (h : Fr2 b1 b2 a.drew w) : Fr2 b1 b2 a w := ⟨h.os, h.tape, h.output, h.size, h.block⟩

/-- Of less than the divisor the highest limbs are at most the divisor's. -/
theorem high_le {U V : List Nat} {o n r m : Nat} (hn : n = r + m) (lV : V.length = n) (hV : Limbs V) (hu : o + n ≤ U.length) (h : sv U o n < val V) : sv U (o + r) m ≤ val (V.drop r) := by
  subst hn
  rw [sv_split U o r m (by omega), val_halves V r (by omega)] at h
  have h1 := val_take_lt' hV r (by omega)
  refine Nat.le_of_not_lt fun h2 => ?_
  have := Nat.mul_le_mul_left (18446744073709551616 ^ r) (Nat.succ_le_of_lt h2)
  rw [Nat.succ_eq_add_one, Nat.mul_add, Nat.mul_one] at this
  omega

set_option maxRecDepth 20000 in
set_option maxHeartbeats 1000000 in
theorem byBlock_any (bq qo m qcap bu uo ucap bv ov vcap n r lu : Nat) (Q U V : List Nat) (w : World) (hok : DivideOk (V.drop r))
    (hQ : Blk w bq Q) (lQ : Limbs Q) (hU : Blk w bu U) (lU : Limbs U) (hV : Arg w (.slice (some ⟨bv, ov, none⟩) n vcap) V) (hT : Tab w) (t1 : 0 ≠ bq) (t2 : 0 ≠ bu) (lV : V.length = n) (hm : 0 < m) (hr : 0 < r) (hn : n = r + m)
    (n1 : bq ≠ bu) (n2 : bv ≠ bq) (n3 : bv ≠ bu) (q1 : qo + m ≤ Q.length) (q2 : m ≤ qcap) (q3 : qcap ≤ 9223372036854775807) (hlu : lu = m + n) (u1 : uo + (m + n) ≤ U.length) (u2 : m + n ≤ ucap) (u3 : ucap ≤ 9223372036854775807)
    (few : m + n ≤ 35184372088831) (hV0 : 0 < val V) (hlt : sv U (uo + m) n < val V) :
    Calls Tryz.prog 94 #[.slice (some ⟨bq, qo, none⟩) m qcap, .slice (some ⟨bu, uo, none⟩) lu ucap, .slice (some ⟨bv, ov, none⟩) n vcap] w (DivDone bq qo m bu uo n (val V) Q U w) := by
  obtain ⟨_, _, e0, hvc, hvm, _⟩ := hV.form
  rw [lV] at e0 hvc
  cases e0
  have hbv := hV.block (by omega)
  have ld : (V.drop r).length = m := by rw [List.length_drop]; omega
  have lt : (V.take r).length = r := by rw [List.length_take]; omega
  have HLE := hide (high_le hn lV hV.limbs (by omega) hlt)
  have eV := val_halves V r (by omega)
  have hcu : ¬ ucap = r := by omega
  have hcv : ¬ vcap = r := by omega
  have er : (n : Int) - (m : Int) = (r : Int) := by omega
  have y1 : lu - r = m + m := by omega
  have y2 : n - r = m := by omega
  have k1 : (0 : Int) ≤ (r : Int) := by omega
  have k2 : (r : Int) ≤ (lu : Int) := by omega
  have k3 : (r : Int) ≤ (n : Int) := by omega
  have k4 : (r : Int) ≤ (ucap : Int) := by omega
  have k5 : (r : Int) ≤ (vcap : Int) := by omega
  have HG := guessBlock_any bq qo qcap bu (uo + r) (ucap - r) bv (ov + r) (vcap - r) m Q U (V.drop r) w.drew hok (hQ.below (Below.refl _ _).drew hQ.lt) lQ (hU.below (Below.refl _ _).drew hU.lt) lU (by have := (hV.drop r (by omega)).drew; rw [y2] at this; exact this) (hT.below (Below.refl _ _).drew) t1 t2 ld hm n1 n2 n3 q1 q2 q3 (by omega) (by omega) (by omega) (by omega) (by rw [show uo + r + m = uo + m + r by omega]; exact HLE.out)
  have HVA := hide hV
  have HTT := hide hT
  have H0 := hide (And.intro lU (And.intro lV (And.intro hn hlu)))
  have HV0 := hide (And.intro hV0 hlt)
  have HEV := hide eV
  have hbq := hQ.lt
  have hbu := hU.lt
  clear hok hQ lQ hU lU hV hT lV hn hlt hV0 HLE ld eV hlu
  go_enter Tryz.func94, Tryz.ntmps94
  go_wp2
  go_region_held3 (fun _ => True) (trivial) (first
    | (go_at_call 105; refine HG.mono ?_; rintro e w2 ⟨he, Q', U', o1, l1, b1, o2, l2, b2, f2, e1, hc⟩; subst he))
  have F2 := hide f2.undrew
  have ls : (seg Q' qo m).length = m := seg_length _ _ _ (by rw [o1.len]; omega)
  have HPR := dproduct_any (m + r + 1) (seg Q' qo m) (V.take r) (.slice (some ⟨bq, qo, none⟩) m qcap) (.slice (some ⟨bv, ov, none⟩) r vcap) w2 (by omega) (by omega) (b1.seg_arg l1 qo m qcap (by rw [o1.len]; omega) q2 q3 (by omega)) ((HVA.out.fr2 F2.out n2 n3).front r (by omega)) (HTT.out.fr2 F2.out t1 t2)
  have HB1 := hide (And.intro b1 (And.intro o1 l1))
  have HB2 := hide (And.intro b2 (And.intro o2 l2))
  have HE1 := hide (And.intro e1 hc)
  clear o1 l1 b1 o2 l2 b2 f2 e1 hc HG ls
  go_wp2_with fail
  refine HPR.mono ?_
  rintro e w3 ⟨⟨v1, rs1, rfl, An1, tr1, er1⟩, hb3⟩
  have hsz := F2.out.size
  have fit := mul_fit (seg Q' qo m) (V.take r) (limbs_seg HB1.out.2.2 _ _) (fun z hz => HVA.out.limbs z (List.mem_of_mem_take hz))
  rw [seg_length _ _ _ (by rw [HB1.out.2.1.len]; omega), lt] at fit
  have r1 := tr_len_lt rs1 (m + r) (by rw [er1]; exact fit)
  rw [tr1] at r1
  have HM := dminus_any bu uo lu ucap U' v1 rs1 w3 (HB2.out.1.below hb3 HB2.out.1.lt) HB2.out.2.2 (An1.arg (by omega)) (fun b off n c e => by subst e; exact .inl (fun h => by have := (An1.own.lt b rfl).1; have := HB2.out.1.lt; omega)) (by rw [HB2.out.2.1.len, H0.out.2.2.2]; omega) (by have := H0.out.2.2.2; omega) u3 (by have := H0.out.2.2.2; have := H0.out.2.2.1; omega)
  have HB3 := hide hb3
  have HER := hide er1
  clear An1 tr1 er1 hb3 HPR fit r1
  go_wp2_with fail
  refine HM.mono ?_
  rintro e w4 ⟨un, U2, hun, rfl, o4, l4, b4, f4, s4⟩
  have HREL : Hid (BlkRel bq qo m bu uo n (val V) 0 Q U w w4 un Q' U2) := by
    obtain ⟨b1, o1, l1⟩ := HB1.out
    obtain ⟨b2, o2, l2⟩ := HB2.out
    obtain ⟨e1, hc⟩ := HE1.out
    obtain ⟨lU, lV, hn, hlu⟩ := H0.out
    rw [HER.out, hlu] at s4
    rw [hlu] at o4
    have hV0 := HV0.out.1
    have hlt := HV0.out.2
    rw [HEV.out] at hV0 hlt ⊢
    exact hide (BlkRel.start hn o1 l1 ((b1.below HB3.out b1.lt).frb f4 n1) o2 lU u1 e1 hc o4 l4 b4 s4 ((F2.out.trans (Fr.left2 (Fr.of_below HB3.out))).trans f4.right2) hV0 hlt)
  clear o4 l4 b4 f4 s4 HM HB1 HB2 HB3 HE1 HER F2
  go_wp2
  go_loopw [7] (fun u wr => ∃ (un : Nat) (Q' U' : List Nat), un ≤ 1 ∧ u = .int .u64 un ∧ BlkRel bq qo m bu uo n (val V) 0 Q U w wr un Q' U') (fun _ wr => sv (rd wr bq) qo m)
  case atStart => exact ⟨un, _, _, hun, rfl, HREL.out⟩
  case round =>
    obtain ⟨un, Q2, U2, hun, rfl, hrel⟩ := hrel
    have HR := hide hrel
    clear hrel HREL
    by_cases hu0 : un = 0
    · subst hu0
      go_wp2
      go_end0
      exact HR.out.done HV0.out.1 (Nat.le_of_lt (by have := val_lt HVA.out.limbs; rw [H0.out.2.1] at this; exact this)) u1
    · have hu1 : un = 1 := by omega
      have hpos : (0 : Int) < (un : Int) := by omega
      have hblq := HR.out.blkQ.lt
      have HD := dminus_any bq qo m qcap Q2 (.slice (some ⟨wr.heap.size, 0, none⟩) 1 1) [1] (wr.alloc (.cells #[.int .u64 1] 32)) (HR.out.blkQ.alloc _) HR.out.limQ
        (Arg.lits wr [1] #[.int .u64 1] 1 rfl rfl (by intro z hz; simp at hz; omega) (by simp)) (fun b off _ _ e => by cases e; exact .inl (by omega)) (by rw [HR.out.outQ.len]; omega) q2 q3 (by simp; omega)
      have HU1 := hide hu1
      clear hu1 hu0
      go_wp2_with fail
      refine HD.mono ?_
      rintro e w5 ⟨c5, Q5, hc5, rfl, o5, l5, b5, f5, s5⟩
      have F5 := hide (show Fr2 bq bu wr w5 from (Fr.left2 (Fr.of_below ((Below.refl _ _).alloc (Nat.le_refl _) _))).trans f5.left2)
      have bu5 := (HR.out.blkU.alloc (.cells #[.int .u64 1] 32)).frb f5 (Ne.symm n1)
      have HP := dplus_any bu uo lu ucap U2 (.slice (some ⟨bv, ov, none⟩) n vcap) V w5 bu5 HR.out.limU (HVA.out.fr2 (HR.out.fr.trans F5.out) n2 n3) (aside_of n3 _ _) (by rw [HR.out.outU.len, H0.out.2.2.2]; omega) (by have := H0.out.2.2.2; omega) u3 (by have := H0.out.2.2.2; rw [H0.out.2.1]; omega)
      have H5 := hide (And.intro o5 (And.intro l5 (And.intro b5 s5)))
      clear o5 l5 b5 f5 s5 HD bu5
      go_wp2_with fail
      refine HP.mono ?_
      rintro e w6 ⟨c6, U6, hc6, rfl, o6, l6, b6, f6, s6⟩
      have HN : Hid (BlkRel bq qo m bu uo n (val V) 0 Q U w w6 (1 - c6) Q5 U6 ∧ sv Q5 qo m < sv Q2 qo m) := by
        obtain ⟨o5, l5, b5, s5⟩ := H5.out
        have h := HR.out
        rw [HU1.out] at h
        rw [H0.out.2.2.2] at o6 s6
        rw [show val [1] = 1 by simp [val]] at s5
        exact hide (h.next HV0.out.1 o5 l5 (b5.frb f6 n1) s5 hc5 o6 l6 b6 s6 hc6 (F5.out.trans f6.right2))
      have HRD := hide (And.intro (rd_blk HR.out.blkQ) (rd_blk HN.out.1.blkQ))
      have eq1 : (un : Int) - (c6 : Int) = ((1 - c6 : Nat) : Int) := by have := HU1.out; omega
      have hle1 : 1 - c6 ≤ 1 := by omega
      generalize 1 - c6 = u2 at *
      clear o6 l6 b6 f6 s6 HP H5 F5 HU1
      go_wp2
      go_roundw
      case rel => exact ⟨u2, Q5, U6, hle1, rfl, HN.out.1⟩
      case measure => rw [HRD.out.1, HRD.out.2]; exact HN.out.2

end Go.Proofs.YtppblbhkghjphaaGreatDoor

/- Package div: divide. -/
namespace Go.Proofs.YtppblbhkghjphaaGreatDoor
open Go.RowKit
open Lm
attribute [local go_sem ↓] Go.wp_at_zero Go.wp_at_succ

theorem ByRel.undrew {bq qo m bu uo n VV : Nat} {Q U : List Nat} {w wr : World} {k : Nat} {Q' U' : List Nat} (h : ByRel bq qo m bu uo n VV Q U w.drew wr k Q' U') : ByRel bq qo m bu uo n VV Q U w wr k Q' U' :=
  ⟨h.outQ, h.limQ, h.blkQ, h.outU, h.limU, h.blkU, h.fr.undrew, h.eq, h.lt, h.top⟩

set_option maxRecDepth 20000 in
set_option maxHeartbeats 1000000 in
theorem divide_any : ∀ (N : Nat) (V : List Nat), V.length < N → ∀ j, V.length = j + 1 → 9223372036854775808 ≤ V.getD j 0 → DivideOk V := by
  intro N
  induction N with
  | zero => intro V h; omega
  | succ N ih =>
    intro V hN j hj ht bq qo m qcap bu uo ucap bv ov vcap Q U w hQ lQ hU lU hV hT t1 t2 n1 n2 n3 q1 q2 q3 u1 u2 u3 few hlt
    by_cases hs : m < 60
    · have hs2 : (m : Int) < 60 := by omega
      have HL := byLimbs_any bq qo m qcap bu uo ucap bv ov vcap j Q U V w hQ lQ hU lU hV hj ht n1 n2 n3 q1 q2 q3 u1 u2 u3 (by omega) hlt
      clear hV hT hQ lQ hU lU hlt ih hj hN ht
      go_enter Tryz.func71, Tryz.ntmps71
      go_wp2_with fail
      refine HL.mono ?_
      intro e w2 hd
      have he := hd.1
      subst he
      have HX := hide hd
      clear hd HL
      go_wp2
      go_end0
      exact HX.out
    · by_cases hs' : V.length < 60
      · have hs2 : ¬ ((m : Int) < 60) := by omega
        have hs3 : (V.length : Int) < 60 := by omega
        have HL := byLimbs_any bq qo m qcap bu uo ucap bv ov vcap j Q U V w hQ lQ hU lU hV hj ht n1 n2 n3 q1 q2 q3 u1 u2 u3 (by omega) hlt
        clear hV hT hQ lQ hU lU hlt ih hj hN ht
        go_enter Tryz.func71, Tryz.ntmps71
        go_wp2_with fail
        refine HL.mono ?_
        intro e w2 hd
        have he := hd.1
        subst he
        have HX := hide hd
        clear hd HL
        go_wp2
        go_end0
        exact HX.out
      · have hs2 : ¬ ((m : Int) < 60) := by omega
        have hs3 : ¬ ((V.length : Int) < 60) := by omega
        have hV0 : 0 < val V := by omega
        obtain ⟨n, hn⟩ : ∃ n, V.length = n := ⟨_, rfl⟩
        have HJ := hide (And.intro hj (And.intro hn ht))
        rw [hn] at hV u1 u2 few hlt hs3 hN ⊢
        have HV0 := hide hV0
        have HIH := hide (fun (V' : List Nat) (h : V'.length < n) => ih V' (by omega))
        have HTT := hide hT
        have HVA := hide hV
        have START : Hid (ByRel bq qo m bu uo n (val V) Q U w w m Q U) := ⟨Out.refl _ _ _, lQ, hQ, Out.refl _ _ _, lU, hU, Fr2.refl _ _ _, by rw [Nat.sub_self, sv_zero, Nat.zero_mul, Nat.zero_add, Nat.add_zero], hlt, by rw [Nat.sub_self, sv_zero]⟩
        obtain ⟨h, eh, hh1, hh2⟩ : ∃ h : Nat, ((n : Int) + 1) / 2 = (h : Int) ∧ 2 * h ≤ n + 1 ∧ n ≤ 2 * h := ⟨(n + 1) / 2, by omega, by omega, by omega⟩
        clear hV hT hQ lQ hU lU hlt ih hj hn ht hV0
        go_enter Tryz.func71, Tryz.ntmps71
        go_wp2
        go_loopw [7] (fun t wr => ∃ (k : Nat) (Q' U' : List Nat), k ≤ m ∧ t = .int .i64 k ∧ ByRel bq qo m bu uo n (val V) Q U w wr k Q' U') (fun t _ => (intOf t).toNat)
        case atStart => exact ⟨m, Q, U, Nat.le_refl _, rfl, START.out⟩
        case round =>
          obtain ⟨k, Q', U', hk, rfl, hrel⟩ := hrel
          have HR := hide hrel
          clear hrel START
          by_cases hk0 : k = 0
          · subst hk0
            go_wp2
            go_end0
            exact ⟨rfl, Q', U', HR.out⟩
          · have hkp : (0 : Int) < (k : Int) := by omega
            clear hk0
            obtain ⟨f, ef, hf1, hf2⟩ : ∃ f : Nat, max ((k : Int) - (h : Int)) 0 = (f : Int) ∧ f < k ∧ k ≤ f + h := ⟨k - h, by omega, by omega, by omega⟩
            obtain ⟨kn, ekn, kn1, kn2⟩ : ∃ kn : Nat, (k : Int) + (n : Int) = (kn : Int) ∧ kn ≤ k + n ∧ k + n ≤ kn := ⟨k + n, by omega, by omega, by omega⟩
            have wkn : IntKind.i64.wrap (kn : Int) = (kn : Int) := by rw [IntKind.wrap_i64]; omega
            obtain ⟨d, ed, hd0, hdn⟩ : ∃ d, k = f + d ∧ 0 < d ∧ d ≤ h := ⟨k - f, by omega, by omega, by omega⟩
            have ld : (V.drop (n - d)).length = d := by rw [List.length_drop, HJ.out.2.1]; omega
            have HOK : DivideOk (V.drop (n - d)) := HIH.out (V.drop (n - d)) (by omega) (d - 1) (by omega) (by
              have e : (V.drop (n - d)).getD (d - 1) 0 = V.getD j 0 := by
                simp only [List.getD, List.getElem?_drop]
                rw [show n - d + (d - 1) = j by have := HJ.out.1; have := HJ.out.2.1; omega]
              rw [e]; exact HJ.out.2.2)
            have hVr := HVA.out.fr2 HR.out.fr n2 n3
            have HB := byBlock_any bq (qo + f) d (qcap - f) bu (uo + f) (ucap - f) bv ov vcap n (n - d) (kn - f) Q' U' V wr.drew HOK
              (HR.out.blkQ.below (Below.refl _ _).drew HR.out.blkQ.lt) HR.out.limQ (HR.out.blkU.below (Below.refl _ _).drew HR.out.blkU.lt) HR.out.limU hVr.drew ((HTT.out.fr2 HR.out.fr t1 t2).below (Below.refl _ _).drew) t1 t2 HJ.out.2.1 hd0 (by omega) (by omega) n1 n2 n3
              (by rw [HR.out.outQ.len]; omega) (by omega) (by omega) (by omega) (by rw [HR.out.outU.len]; omega) (by omega) (by omega) (by omega) HV0.out (by rw [show uo + f + d = uo + k by omega]; exact HR.out.lt)
            have g1 : k - f = d := by omega
            have hcq : ¬ qcap = f := by omega
            have hcu : ¬ ucap = f := by omega
            have k1 : (0 : Int) ≤ (f : Int) := by omega
            have k2 : (f : Int) ≤ (k : Int) := by omega
            have k3 : (k : Int) ≤ (qcap : Int) := by omega
            have k4 : (f : Int) ≤ (kn : Int) := by omega
            have k5 : (kn : Int) ≤ (ucap : Int) := by omega
            have HK := hide ed
            clear ed
            go_wp2
            go_region_held3 (fun _ => True) (trivial) (first
              | (go_at_call 94; refine HB.mono ?_; rintro e w2 ⟨he, Q2, U2, hb2⟩; subst he))
            have HN : Hid (ByRel bq qo m bu uo n (val V) Q U w w2 f Q2 U2) := by
              have h := HR.out
              rw [HK.out] at h
              exact hide (h.block hb2.undrew (by have := HK.out; omega) q1 u1)
            clear hb2 HB
            go_wp2
            go_roundw
            case rel => exact ⟨f, Q2, U2, by omega, rfl, HN.out⟩
            case measure => simp [intOf]; omega

end Go.Proofs.YtppblbhkghjphaaGreatDoor

/- Package div: divisorOf. -/
namespace Go.Proofs.YtppblbhkghjphaaGreatDoor
open Go.RowKit
open Lm
attribute [local go_sem ↓] Go.wp_at_zero Go.wp_at_succ

/-- A list of limbs shifted up until its highest bit is 1. -/
theorem normal_shift {Y V : List Nat} {j s cy : Nat} (hY : Limbs Y) (lY : Y.length = j + 1) (hV : Limbs V) (lV : V.length = j + 1) (h1 : 9223372036854775808 ≤ Y.getD j 0 * 2 ^ s) (h2 : Y.getD j 0 * 2 ^ s < 18446744073709551616) (hs : s < 64)
    (e : val V + cy * 18446744073709551616 ^ (j + 1) = val Y * 2 ^ s) : cy = 0 ∧ 9223372036854775808 ≤ V.getD j 0 := by
  have a1 := val_take_next Y j
  rw [← lY, List.take_length] at a1
  have a2 := val_take_lt' hY j (by omega)
  have b1 := val_take_next V j
  rw [← lV, List.take_length] at b1
  have b2 := val_take_lt' hV j (by omega)
  have hp : 2 ^ (64 - s) * 2 ^ s = 18446744073709551616 := by rw [← Nat.pow_add, show 64 - s + s = 64 by omega]
  have h3 : (Y.getD j 0 + 1) * 2 ^ s ≤ 18446744073709551616 := by
    rw [← hp] at h2 ⊢
    exact Nat.mul_le_mul_right _ (Nat.succ_le_of_lt (Nat.lt_of_mul_lt_mul_right h2))
  rw [Nat.add_mul, Nat.one_mul] at h3
  rw [a1, b1, Nat.pow_succ] at e
  generalize val (Y.take j) = a at *
  generalize val (V.take j) = b at *
  generalize Y.getD j 0 = t at *
  generalize V.getD j 0 = v at *
  generalize (18446744073709551616 : Nat) ^ j = W at *
  generalize (2 : Nat) ^ s = S at *
  rw [Nat.add_mul, Nat.mul_assoc] at e
  generalize t * S = x at *
  have hS : 0 < S := by
    rcases Nat.eq_zero_or_pos S with h | h
    · subst h; omega
    · exact h
  have c1 : a * S < W * S := Nat.mul_lt_mul_of_pos_right a2 hS
  have c2 : W * x + W * S ≤ W * 18446744073709551616 := by rw [← Nat.mul_add]; exact Nat.mul_le_mul_left _ h3
  have hc : cy = 0 := by
    rcases Nat.eq_zero_or_pos cy with h | h
    · exact h
    · have := Nat.mul_le_mul_right (W * 18446744073709551616) h
      omega
  subst hc
  refine ⟨rfl, Nat.le_of_not_lt fun h => ?_⟩
  have c3 := Nat.mul_le_mul_left W (Nat.succ_le_of_lt h)
  rw [Nat.succ_eq_add_one, Nat.mul_add, Nat.mul_one] at c3
  have c4 := Nat.mul_le_mul_left W h1
  omega

/-- A divisor made ready: for the number B, whose limbs are n. -/
def Dvs (w : World) (base : Nat) (v : Value) (B n : Nat) : Prop :=
  ∃ (g nn s j h : Nat) (V : List Nat), v = .agg #[.slice (some ⟨g, 0, none⟩) V.length V.length, .int .i64 nn, .int .i64 s] ∧ base ≤ g ∧ Blk w g V ∧ Limbs V ∧ V.length = j + 1 ∧ 9223372036854775808 ≤ V.getD j 0 ∧ s < 64 ∧ val V = h * 2 ^ s ∧ B = h * 18446744073709551616 ^ nn ∧ nn + V.length = n ∧ n ≤ 35184372088000

theorem Dvs.below {w w' : World} {base B n : Nat} {v : Value} (h : Dvs w base v B n) (hb : Below w.heap.size w w') : Dvs w' base v B n := by
  obtain ⟨g, nn, s, j, k, V, h1, h2, h3, h4⟩ := h
  exact ⟨g, nn, s, j, k, V, h1, h2, h3.below hb h3.lt, h4⟩

theorem box3 {w : World} {h : Nat} {a b c : Value} {t : TypeId} (e : w.heap[h]? = some (.cells #[a, b, c] t)) : w.cell? ⟨h, 0, none⟩ = some a ∧ w.cell? ⟨h, 1, none⟩ = some b ∧ w.cell? ⟨h, 2, none⟩ = some c :=
  ⟨by simp [World.cell?, e], by simp [World.cell?, e], by simp [World.cell?, e]⟩

theorem box3f {w : World} {h : Nat} {a b c : Value} {t : TypeId} (e : w.heap[h]? = some (.cells #[a, b, c] t)) : ∀ k, w.frozen? ⟨h, k, none⟩ = false := fun k => by simp [World.frozen?, e]

theorem box3_all {w : World} {h : Nat} {a b c a' b' c' : Value} {t : TypeId} (e : w.heap[h]? = some (.cells #[a, b, c] t)) :
    (((w.setCell ⟨h, 0, none⟩ a').setCell ⟨h, 1, none⟩ b').setCell ⟨h, 2, none⟩ c').heap[h]? = some (.cells #[a', b', c'] t) :=
  box_modify (box_modify (box_modify e a') b') c'

theorem cell_below {B : Nat} {w w' : World} (hb : Below B w w') {b o : Nat} {v : Value} (h : w.cell? ⟨b, o, none⟩ = some v) (hlt : b < B) : w'.cell? ⟨b, o, none⟩ = some v := by
  rw [World.cell?_of_block (w := w) (hb.block b hlt)]; exact h

set_option maxRecDepth 20000 in
set_option maxHeartbeats 1000000 in
theorem divisorOf_any (vb : Value) (X : List Nat) (w : World) (hA : Arg w vb X) (hT : Tab w) (hX0 : val X ≠ 0) (hfew : X.length ≤ 35184372088000) :
    Calls Tryz.prog 52 #[vb] w fun e w' => (∃ v, e = .returned v ∧ Dvs w' w.heap.size v (val X) (tr X).length) ∧ Below w.heap.size w w' := by
  obtain ⟨a0, cap, rfl, hcc, hcm, hl⟩ := hA.form
  obtain ⟨b, off, rfl⟩ : ∃ b off, a0 = some ⟨b, off, none⟩ := by
    rcases hl with h0 | ⟨b, off, e, _⟩
    · subst h0; exact absurd rfl hX0
    · exact ⟨b, off, e⟩
  have hle := tr_length_le X
  obtain ⟨w0, hw0⟩ : ∃ w0, w0 = w.alloc (.cells #[.slice none 0 0, .int .i64 0, .int .i64 0] 91) := ⟨_, rfl⟩
  have hbel0 : Below w.heap.size w w0 := by rw [hw0]; exact (Below.refl _ _).alloc (Nat.le_refl _) _
  have hs0 : w0.heap.size = w.heap.size + 1 := by rw [hw0]; exact World.size_alloc _ _
  have hb0 : w0.heap[w.heap.size]? = some (.cells #[.slice none 0 0, .int .i64 0, .int .i64 0] 91) := by rw [hw0]; exact heap_alloc_new ..
  have H1 := dtrim_any _ cap X w0 hcc hcm (hl.below hbel0)
  have A0 := (hA.below hbel0).trim
  have H2 := tail_weak _ (tr X) w0 A0 (hT.below hbel0)
  rw [← val_tr X] at hX0 ⊢
  have htt := tr_tr X
  generalize tr X = T at *
  have hlow := low0_lt T hX0
  have hval := low0_val T
  generalize low0 T = nn at *
  obtain ⟨R, hR1, hR2⟩ : ∃ R : Nat, T.length - nn = R ∧ T.length = nn + R := ⟨_, rfl, by omega⟩
  obtain ⟨j, hj⟩ : ∃ j, R = j + 1 := ⟨R - 1, by omega⟩
  have HW0 := hide hw0
  have htop := tr_last' T (nn + j) htt (by omega)
  have lD : (T.drop nn).length = R := by rw [List.length_drop]; omega
  have gD : (T.drop nn).getD j 0 = T.getD (nn + j) 0 := by simp only [List.getD, List.getElem?_drop]
  have AD := A0.drop nn (by omega)
  rw [hR1] at AD
  have hcell : w0.cell? ⟨b, off + nn + j, none⟩ = some (.int .u64 ((T.getD (nn + j) 0 : Nat) : Int)) := by
    obtain ⟨_, _, e, _, _, hl⟩ := AD.form
    cases e
    rcases hl with h0 | ⟨b', off', e, hc⟩
    · have := congrArg List.length h0
      rw [List.length_drop] at this
      simp at this; omega
    · cases e
      rw [← gD]
      exact hc j (by rw [List.length_drop]; omega)
  have hyl := limb_lt A0.limbs (nn + j)
  have HD := hide (And.intro AD (And.intro lD gD))
  have HH := hide (And.intro hval (And.intro hR2 hj))
  obtain ⟨i0, hi, hz0, hz1, hz2⟩ := info_parts Tryz.infoU
  have HBX := hide hb0
  have HBL := hide hbel0
  have hbw : b < w.heap.size := hA.block (by
    refine Nat.lt_of_lt_of_le ?_ hle
    omega)
  have hcne : ¬ cap = nn := by omega
  have ej : (R : Int) - 1 = (j : Int) := by omega
  have k0 : (0 : Int) ≤ (nn : Int) := by omega
  have k1 : (nn : Int) ≤ (T.length : Int) := by omega
  have k2 : (0 : Int) ≤ (j : Int) := by omega
  have k3 : (j : Int) < (R : Int) := by omega
  have hRl : R ≤ T.length := by omega
  generalize T.getD (nn + j) 0 = y at *
  have HLZ := fun w => Tryz.bits_LeadingZeros64 (y : Int) w (by omega) (by omega)
  rw [Int.toNat_natCast] at HLZ
  obtain ⟨n1, n2, n3, n4⟩ := norm_y y (by omega) hyl
  obtain ⟨s, hs⟩ : ∃ s, s = 64 - Lib.bitLen y := ⟨_, rfl⟩
  have hsI : (64 : Int) - (Lib.bitLen y : Int) = (s : Int) := by omega
  rw [← hs] at n3 n4
  have hs63 : s < 64 := by omega
  have HN := hide (And.intro n3 n4)
  have HTT := hide htt
  clear hw0 hl hs n1 n2 n3 n4 AD hval hb0 hbel0 A0 lD gD hj htt hX0 hT hA hR2
  go_enter Tryz.func52, Tryz.ntmps52
  go_wp2_with fail
  rw [← HW0.out]
  refine H1.mono ?_
  rintro e wn ⟨rfl, hw⟩; rw [hw]; clear hw wn H1
  go_wp2_with fail
  refine H2.mono ?_
  rintro e wn ⟨⟨t, ht, rfl⟩, hw⟩; rw [hw]; clear hw wn H2
  have etl : ((nn * 64 + t : Nat) : Int) / 64 = (nn : Int) := by omega
  have HT2 := hide ht
  clear ht
  generalize nn * 64 + t = tl at *
  go_wp2_with (at_make; refine wpList_make_full _ rfl _ _ 24 rfl w0.heap.size 32 i0 (.int .u64 0) 1 Tryz.underlying24 hi hz0 hz1 .i64 .i64 _ _ R rfl rfl (by omega) (by omega) (by rw [hz2]; omega) (by unfold maxLen; omega) (Nat.le_refl _) ?_; intro w3 hown hgrow; have hcell3 := cell_below ((Below.refl w0.heap.size w0).grown hgrow (Nat.le_refl _) (fun k hk => by cases hk)) hcell (by omega))
  have hm3 : Blk w3 w0.heap.size (List.replicate R 0) := Blk.made hown
  have hbel3 : Below w0.heap.size w0 w3 := (Below.refl _ _).grown hgrow (Nat.le_refl _) (fun k hk => by cases hk)
  have HX3 := hide (show w3.heap[w.heap.size]? = some (.cells #[.slice none 0 0, .int .i64 0, .int .i64 0] 91) by rw [hbel3.block w.heap.size (by omega)]; exact HBX.out)
  have HB3 := hide (HBL.out.trans (hbel3.mono HBL.out.size))
  obtain ⟨g, hg⟩ : ∃ g, g = w.heap.size + 1 := ⟨_, rfl⟩
  rw [hs0, ← hg] at hm3
  rw [← hg]
  have hgw : w.heap.size < g := by omega
  have HSU := shiftUp_any g 0 R R (List.replicate R 0) _ (T.drop nn) s w3 hm3 (limbs_replicate _) (HD.out.1.below hbel3) (fun b' off' n' c' e => by cases e; exact .inl (by omega)) (by simp) (Nat.le_refl _) (by omega) (by rw [HD.out.2.1]; omega) hs63
  have hsz3 : w.heap.size < w3.heap.size := by have := hm3.lt; omega
  clear hown hgrow hi hz0 hz1 hz2 hbel3 hm3 hcell hg HBX HBL hs0
  refine (HLZ _).mono ?_
  rintro e wn ⟨rfl, hw⟩; rw [hw]; clear hw wn HLZ
  go_wp2_with fail
  refine HSU.mono ?_
  rintro e w4 ⟨cy, Z4, hcy, rfl, O4, L4, B4, F4, S4⟩
  have HRES : Hid (Dvs w4 w.heap.size (.agg #[.slice (some ⟨g, 0, none⟩) R R, .int .i64 nn, .int .i64 s]) (val T) T.length) := by
    obtain ⟨AD, lD, gD⟩ := HD.out
    obtain ⟨hval, hR2, hj⟩ := HH.out
    have l4 : Z4.length = R := by rw [O4.len, List.length_replicate]
    rw [lD] at S4
    have s5 : sv Z4 0 R = val Z4 := sv_full l4
    rw [s5, hj] at S4
    rw [← gD] at HN
    obtain ⟨c0, ht⟩ := normal_shift AD.limbs (by rw [lD, hj]) L4 (by rw [l4, hj]) HN.out.1 HN.out.2 hs63 S4
    subst c0
    exact hide ⟨g, nn, s, j, val (T.drop nn), Z4, by rw [l4], by omega, B4, L4, by rw [l4, hj], ht, hs63, by omega, by rw [Nat.mul_comm]; exact hval, by rw [l4]; omega, by omega⟩
  have hcy2 : cy < 18446744073709551616 := by
    have := Nat.pow_le_pow_right (n := 2) (by omega) (Nat.le_of_lt hs63)
    omega
  have RX4 := hide ((F4.block w.heap.size hsz3 (by omega)).trans HX3.out)
  have W4 := hide (HB3.out.trans (F4.below (by omega) HB3.out.size))
  clear O4 L4 B4 F4 S4 HSU hcell3 HX3 HB3 HD HH HN hcy
  obtain ⟨hr0, hr1, hr2⟩ := box3 RX4.out
  have hf := box3f RX4.out
  go_wp2
  have R5 := box3_all RX4.out (a' := .slice (some ⟨g, 0, none⟩) R R) (b' := .int .i64 nn) (c' := .int .i64 s)
  have hne : g ≠ w.heap.size := by omega
  have HRES5 : Hid (Dvs (((w4.setCell ⟨w.heap.size, 0, none⟩ (.slice (some ⟨g, 0, none⟩) R R)).setCell ⟨w.heap.size, 1, none⟩ (.int .i64 nn)).setCell ⟨w.heap.size, 2, none⟩ (.int .i64 s)) w.heap.size (.agg #[.slice (some ⟨g, 0, none⟩) R R, .int .i64 nn, .int .i64 s]) (val T) T.length) := by
    obtain ⟨g', nn', s', j', k', V, h1, h2, h3, h4⟩ := HRES.out
    have e1 : g' = g := by
      injection h1 with h1
      have := congrArg (fun a => a[0]?) h1
      simp at this
      exact this.1.symm
    subst e1
    exact hide ⟨g', nn', s', j', k', V, h1, h2, ((h3.other ⟨w.heap.size, 0, none⟩ _ hne).other ⟨w.heap.size, 1, none⟩ _ hne).other ⟨w.heap.size, 2, none⟩ _ hne, h4⟩
  have W5 := hide (((W4.out.setCell (p := ⟨w.heap.size, 0, none⟩) (Nat.le_refl _) (.slice (some ⟨g, 0, none⟩) R R)).setCell (p := ⟨w.heap.size, 1, none⟩) (Nat.le_refl _) (.int .i64 nn)).setCell (p := ⟨w.heap.size, 2, none⟩) (Nat.le_refl _) (.int .i64 s))
  generalize ((w4.setCell ⟨w.heap.size, 0, none⟩ (.slice (some ⟨g, 0, none⟩) R R)).setCell ⟨w.heap.size, 1, none⟩ (.int .i64 nn)).setCell ⟨w.heap.size, 2, none⟩ (.int .i64 s) = w5 at *
  clear hr0 hr1 hr2 hf
  obtain ⟨hk0, hk1, hk2⟩ := box3 R5
  clear R5 RX4 HRES W4
  refine bodyPost_ret (v := .agg #[.slice (some ⟨g, 0, none⟩) R R, .int .i64 nn, .int .i64 s]) (by simp [results, Tryz.results52, go_sem, hk0, hk1, hk2]) rfl ?_
  exact ⟨⟨_, rfl, HRES5.out⟩, W5.out⟩

end Go.Proofs.YtppblbhkghjphaaGreatDoor

/- Package div: both, rest. -/
namespace Go.Proofs.YtppblbhkghjphaaGreatDoor
open Go.RowKit
open Lm
attribute [local go_sem ↓] Go.wp_at_zero Go.wp_at_succ

theorem both_val {hx Bh S q R lo P : Nat} (hS : 0 < S) (e : q * (Bh * S) + R = hx * S) (hR : R < Bh * S) (hlo : lo < P) :
    q = (lo + P * hx) / (Bh * P) ∧ lo + P * (R / S) = (lo + P * hx) % (Bh * P) := by
  have h1 : R = (hx - q * Bh) * S := by
    rw [Nat.sub_mul, ← e, ← Nat.mul_assoc]; omega
  have hle : q * Bh ≤ hx := by
    refine Nat.le_of_mul_le_mul_right ?_ hS
    rw [Nat.mul_assoc]; omega
  obtain ⟨r, rfl⟩ : ∃ r, hx = q * Bh + r := ⟨hx - q * Bh, by omega⟩
  rw [Nat.add_sub_cancel_left] at h1
  subst h1
  rw [Nat.mul_div_cancel _ hS]
  have hr : r < Bh := Nat.lt_of_mul_lt_mul_right hR
  have h2 : lo + P * (q * Bh + r) = Bh * P * q + (lo + P * r) := by
    rw [Nat.mul_add, show P * (q * Bh) = Bh * P * q by rw [Nat.mul_comm q Bh, ← Nat.mul_assoc, Nat.mul_comm P Bh]]
    omega
  have h3 : lo + P * r < Bh * P := by
    have := Nat.mul_le_mul_left P (Nat.succ_le_of_lt hr)
    rw [Nat.succ_eq_add_one, Nat.mul_add, Nat.mul_one, Nat.mul_comm P Bh] at this
    omega
  rw [h2, Nat.mul_add_div (by omega), Nat.mul_add_mod, Nat.div_eq_of_lt h3, Nat.mod_eq_of_lt h3]
  exact ⟨rfl, rfl⟩

/-- What a division answers: a quotient and a rest, in new memory. -/
def BothDone (w : World) (x B k : Nat) (e : Ending) (w' : World) : Prop :=
  (∃ (vq vr : Value) (qs rs : List Nat) (mid : Nat), e = .returned (.tuple #[vq, vr]) ∧ Ans w' w.heap.size vq qs ∧ (w.heap.size ≤ mid ∧ mid ≤ w'.heap.size) ∧ (∀ g, vq.ownBlock = some g → g < mid) ∧ Ans w' mid vr rs ∧
    val qs = x / B ∧ val rs = x % B ∧ qs.length ≤ k ∧ rs.length ≤ k ∧ (B ≤ x → 1 ≤ rs.length)) ∧ Below w.heap.size w w'

/-- A divisor of n limbs is at least as great as the least number of n limbs. -/
theorem Dvs.ge {V : List Nat} {j s h nn : Nat} (lV : V.length = j + 1) (ht : 9223372036854775808 ≤ V.getD j 0) (hs : s < 64) (e : val V = h * 2 ^ s) : 18446744073709551616 ^ (nn + j) ≤ h * 18446744073709551616 ^ nn ∧ 9223372036854775808 * 18446744073709551616 ^ j ≤ val V ∧ 0 < h := by
  have a1 := val_take_next V j
  rw [← lV, List.take_length] at a1
  have b1 : 9223372036854775808 * 18446744073709551616 ^ j ≤ val V := by
    rw [a1, Nat.mul_comm]
    exact Nat.le_trans (Nat.mul_le_mul_left _ ht) (Nat.le_add_left _ _)
  have hp : 2 ^ s ≤ 9223372036854775808 := Nat.pow_le_pow_right (n := 2) (by omega) (show s ≤ 63 by omega)
  have hpos := Nat.pow_pos (n := j) (show 0 < 18446744073709551616 by omega)
  have b2 : 18446744073709551616 ^ j ≤ h := by
    rw [e] at b1
    refine Nat.le_of_not_lt fun hl => ?_
    have c1 := Nat.mul_lt_mul_of_lt_of_le hl hp (by omega)
    rw [Nat.mul_comm] at b1
    omega
  refine ⟨?_, b1, by omega⟩
  rw [Nat.pow_add, Nat.mul_comm]
  exact Nat.mul_le_mul_right _ b2

set_option maxRecDepth 20000 in
set_option maxHeartbeats 1000000 in
theorem both_few (va vd : Value) (X : List Nat) (base B n : Nat) (w : World) (hA : Arg w va X) (hD : Dvs w base vd B n) (hn : (tr X).length < n) (hfew : X.length ≤ 17592186044416) :
    Calls Tryz.prog 53 #[vd, va] w (BothDone w (val X) B X.length) := by
  obtain ⟨a0, cap, rfl, hcc, hcm, hl⟩ := hA.form
  obtain ⟨g, nn, s, j, h, V, rfl, hg, hV, lV, hj, ht, hs, eV, eB, en, hnf⟩ := hD
  obtain ⟨g1, g2, g3⟩ := Dvs.ge (nn := nn) hj ht hs eV
  obtain ⟨w0, hw0⟩ : ∃ w0, w0 = w.alloc (.cells #[.slice (some ⟨g, 0, none⟩) V.length V.length, .int .i64 nn, .int .i64 s] 91) := ⟨_, rfl⟩
  have hbel0 : Below w.heap.size w w0 := by rw [hw0]; exact (Below.refl _ _).alloc (Nat.le_refl _) _
  have hs0 : w0.heap.size = w.heap.size + 1 := by rw [hw0]; exact World.size_alloc _ _
  have hb0 : w0.heap[w.heap.size]? = some (.cells #[.slice (some ⟨g, 0, none⟩) V.length V.length, .int .i64 nn, .int .i64 s] 91) := by rw [hw0]; exact heap_alloc_new ..
  have H1 := dtrim_any _ cap X w0 hcc hcm (hl.below hbel0)
  have A0 := (hA.below hbel0).trim
  have hle := tr_length_le X
  have H2 := nnorm_any _ (tr X) w0 A0 (by omega)
  rw [tr_tr] at H2
  have hlt : val X < B := by
    have h1 := val_lt A0.limbs
    rw [val_tr] at h1
    have h2 := Nat.pow_le_pow_right (n := 18446744073709551616) (by omega) (show (tr X).length ≤ nn + j by omega)
    rw [eB]; omega
  have HV : Hid (val (tr X) = val X % B ∧ 0 = val X / B) := hide ⟨by rw [val_tr, Nat.mod_eq_of_lt hlt], (Nat.div_eq_of_lt hlt).symm⟩
  have HLT := hide hlt
  have HW0 := hide hw0
  obtain ⟨hk0, hk1, _⟩ := box3 hb0
  have eN : (nn : Int) + (V.length : Int) = (n : Int) := by omega
  have k1 : ((tr X).length : Int) < (n : Int) := by omega
  have HBL := hide hbel0
  clear hV lV hj ht eV eB g1 g2 g3 hlt A0 hl hA hb0 hw0 en
  go_enter Tryz.func53, Tryz.ntmps53
  go_wp2_with fail
  rw [← HW0.out]
  refine H1.mono ?_
  rintro e wn ⟨rfl, hw⟩; rw [hw]; clear hw wn H1
  go_wp2_with fail
  refine H2.mono ?_
  rintro e w2 ⟨⟨v, rfl, An⟩, hb2⟩
  have HX : Hid (BothDone w (val X) B X.length (.returned (.tuple #[.slice none 0 0, v])) w2) := by
    have hbb := HBL.out.trans (hb2.mono HBL.out.size)
    exact hide ⟨⟨_, v, [], tr X, w.heap.size, rfl, Ans.nil _ _, ⟨Nat.le_refl _, hbb.size⟩, (fun g e => (by cases e)), An.base HBL.out.size, HV.out.2, HV.out.1, Nat.zero_le _, hle, fun h => absurd h (Nat.not_le_of_lt HLT.out)⟩, hbb⟩
  clear An hb2 H2 HV
  go_wp2
  go_ret2
  exact HX.out

end Go.Proofs.YtppblbhkghjphaaGreatDoor

/- Package div: both, where the divisor is no longer than the number; rest. -/
namespace Go.Proofs.YtppblbhkghjphaaGreatDoor
open Go.RowKit
open Lm
attribute [local go_sem ↓] Go.wp_at_zero Go.wp_at_succ

/-- The shifted number's highest limbs are less than the divisor. -/
theorem shifted_lt {U V : List Nat} {j m L H s h : Nat} (lU : U.length = H + 1) (hL : L = j + 1) (hm : H + 1 = m + L) (e : val U = h * 2 ^ s) (hh : h < 18446744073709551616 ^ H) (hs : s < 64) (hV : 9223372036854775808 * 18446744073709551616 ^ j ≤ val V) :
    sv U (0 + m) L < val V := by
  have s1 := sv_split U 0 m L (by omega)
  rw [← hm, ← lU, sv_all, e] at s1
  have hp : 2 ^ s ≤ 9223372036854775808 := Nat.pow_le_pow_right (n := 2) (by omega) (show s ≤ 63 by omega)
  have hH : 18446744073709551616 ^ H = 18446744073709551616 ^ m * 18446744073709551616 ^ j := by rw [← Nat.pow_add]; congr 1; omega
  have hpos := Nat.pow_pos (n := m) (show 0 < 18446744073709551616 by omega)
  have c1 : h * 2 ^ s < 18446744073709551616 ^ H * 9223372036854775808 := Nat.mul_lt_mul_of_lt_of_le hh hp (by omega)
  rw [hH, Nat.mul_assoc, Nat.mul_comm (18446744073709551616 ^ j)] at c1
  refine Nat.lt_of_lt_of_le ?_ hV
  refine Nat.lt_of_mul_lt_mul_left (a := 18446744073709551616 ^ m) ?_
  omega

set_option maxRecDepth 20000 in
set_option maxHeartbeats 1000000 in
theorem both_many (va vd : Value) (X : List Nat) (base B n : Nat) (w : World) (hA : Arg w va X) (hD : Dvs w base vd B n) (hT : Tab w) (hn : n ≤ (tr X).length) (hfew : X.length ≤ 17592186044416) :
    Calls Tryz.prog 53 #[vd, va] w (BothDone w (val X) B X.length) := by
  obtain ⟨a0, cap, rfl, hcc, hcm, hl⟩ := hA.form
  obtain ⟨g, nn, s, j, h, V, rfl, hg, hV, lV, hj, ht, hs, eV, eB, en, hnf⟩ := hD
  obtain ⟨g1, g2, g3⟩ := Dvs.ge (nn := nn) hj ht hs eV
  have hle := tr_length_le X
  obtain ⟨b, off, rfl⟩ : ∃ b off, a0 = some ⟨b, off, none⟩ := by
    rcases hl with h0 | ⟨b, off, e, _⟩
    · subst h0
      have : (tr []).length = 0 := rfl
      omega
    · exact ⟨b, off, e⟩
  obtain ⟨w0, hw0⟩ : ∃ w0, w0 = w.alloc (.cells #[.slice (some ⟨g, 0, none⟩) V.length V.length, .int .i64 nn, .int .i64 s] 91) := ⟨_, rfl⟩
  have hbel0 : Below w.heap.size w w0 := by rw [hw0]; exact (Below.refl _ _).alloc (Nat.le_refl _) _
  have hs0 : w0.heap.size = w.heap.size + 1 := by rw [hw0]; exact World.size_alloc _ _
  have hb0 : w0.heap[w.heap.size]? = some (.cells #[.slice (some ⟨g, 0, none⟩) V.length V.length, .int .i64 nn, .int .i64 s] 91) := by rw [hw0]; exact heap_alloc_new ..
  have H1 := dtrim_any _ cap X w0 hcc hcm (hl.below hbel0)
  have A0 := hA.trim
  rw [← val_tr X]
  have hbw : b < w.heap.size := hA.block (by omega)
  generalize tr X = T at *
  have HOK := divide_any (V.length + 1) V (Nat.lt_succ_self _) j hj ht
  obtain ⟨L, hL⟩ : ∃ L, V.length = L := ⟨_, rfl⟩
  obtain ⟨H, hH1, hH2⟩ : ∃ H : Nat, T.length - nn = H ∧ T.length = nn + H := ⟨_, rfl, by omega⟩
  obtain ⟨H', eH, hH'1, hH'2⟩ : ∃ H' : Nat, (H : Int) + 1 = (H' : Int) ∧ H' ≤ H + 1 ∧ H + 1 ≤ H' := ⟨H + 1, by omega, by omega, by omega⟩
  obtain ⟨m, em, hm1, hm2⟩ : ∃ m : Nat, (H' : Int) - (L : Int) = (m : Int) ∧ m + L ≤ H' ∧ H' ≤ m + L := ⟨H' - L, by omega, by omega, by omega⟩
  have eN : (nn : Int) + (L : Int) = (n : Int) := by omega
  have HV := hide (And.intro hV (And.intro lV (And.intro hj (And.intro ht (And.intro hL HOK)))))
  have HE := hide (And.intro eV (And.intro eB (And.intro g2 g3)))
  have HN := hide (And.intro en hH2)
  have HA := hide A0
  have HTT := hide hT
  have HW0 := hide hw0
  have HBL := hide hbel0
  rw [hL] at hb0 HW0 hw0 ⊢
  have HBX := hide hb0
  obtain ⟨hk0, hk1, hk2⟩ := box3 hb0
  have hgw : g < w.heap.size := hV.lt
  have hcne : ¬ cap = nn := by omega
  have c0 : (0 : Int) ≤ (nn : Int) := by omega
  have c1 : (nn : Int) ≤ (T.length : Int) := by omega
  have c2 : (nn : Int) ≤ (cap : Int) := by omega
  have c3 : ¬ ((T.length : Int) < (n : Int)) := by omega
  have c4 : L ≤ H := by omega
  have c5 : 0 < L := by omega
  have c6 : H ≤ 17592186044416 := by omega
  have c7 : nn + L ≤ n := by omega
  have c8 : n ≤ nn + L := by omega
  have c9 : nn + H ≤ T.length := by omega
  obtain ⟨i0, hi, hz0, hz1, hz2⟩ := info_parts Tryz.infoU
  clear hl hA A0 hT hw0 hbel0 hV lV hj ht HOK eV eB g1 g2 g3 en hH2 hb0 hL hn
  go_enter Tryz.func53, Tryz.ntmps53
  go_wp2_with fail
  rw [← HW0.out]
  refine H1.mono ?_
  rintro e wn ⟨rfl, hw⟩; rw [hw]; clear hw wn H1
  go_wp2
  go_quiet (fail)
  obtain ⟨w1, hw1⟩ : ∃ w1, w1 = w0.drewN nq := ⟨_, rfl⟩
  have hx1 : w1.heap[w.heap.size]? = some (.cells #[.slice (some ⟨g, 0, none⟩) L L, .int .i64 nn, .int .i64 s] 91) := by rw [hw1]; exact HBX.out
  have hbel1 : Below w.heap.size w w1 := by rw [hw1]; exact below_drewN HBL.out _
  have hs1 : w1.heap.size = w.heap.size + 1 := by rw [hw1]; exact hs0
  rw [← hw1]
  have HX1 := hide hx1
  have HB1 := hide hbel1
  clear hw1 hx1 hbel1 HBL HBX hk0 hk1 hk2 hs0 HW0
  go_wp2_with (at_make; refine wpList_make_full _ rfl _ _ 24 rfl w1.heap.size 32 i0 (.int .u64 0) 1 Tryz.underlying24 hi hz0 hz1 .i64 .i64 _ _ H' rfl rfl (by omega) (by omega) (by rw [hz2]; omega) (by unfold maxLen; omega) (Nat.le_refl _) ?_; intro w2 hown hgrow; obtain ⟨hk0, hk1, hk2⟩ := box3 ((((Below.refl w1.heap.size w1).grown hgrow (Nat.le_refl _) (fun k hk => by cases hk)).block w.heap.size (by omega)).trans HX1.out))
  have hm2' : Blk w2 w1.heap.size (List.replicate H' 0) := Blk.made hown
  have hbel2 : Below w1.heap.size w1 w2 := (Below.refl _ _).grown hgrow (Nat.le_refl _) (fun k hk => by cases hk)
  have HX2 := hide ((hbel2.block w.heap.size (by omega)).trans HX1.out)
  have HB2 := hide (HB1.out.trans (hbel2.mono HB1.out.size))
  obtain ⟨gu, hgu⟩ : ∃ gu, gu = w.heap.size + 1 := ⟨_, rfl⟩
  rw [hs1, ← hgu] at hm2'
  rw [← hgu]
  have hgw2 : w.heap.size < gu := by omega
  have hsz2 : gu < w2.heap.size := hm2'.lt
  have AH := HA.out.drop nn (by omega)
  rw [hH1] at AH
  have lD : (T.drop nn).length = H := by rw [List.length_drop]; exact hH1
  have HSU := shiftUp_any gu 0 H' H' (List.replicate H' 0) _ (T.drop nn) s w2 hm2' (limbs_replicate _) (AH.below HB2.out) (fun b' off' n' c' e => by cases e; exact .inl (by omega)) (by simp) (Nat.le_refl _) (by omega) (by rw [lD]; omega) hs
  have HAH := hide (And.intro AH lD)
  have HGU := hide hgu
  clear hown hgrow hbel2 hm2' HX1 HB1 hs1 AH lD hgu
  refine HSU.mono ?_
  rintro e w3 ⟨cy, Z3, hcy, rfl, O3, L3, B3, F3, S3⟩
  have hcy2 : cy < 18446744073709551616 := by
    have := Nat.pow_le_pow_right (n := 2) (by omega) (Nat.le_of_lt hs)
    omega
  have l3 : Z3.length = H' := by rw [O3.len, List.length_replicate]
  have fr3 := B3.free (0 + H)
  have cl3 := B3.cell (0 + H) (by omega)
  rw [Nat.zero_add] at fr3 cl3
  have B4 := B3.set H cy
  have F4 := F3.setCell H (.int .u64 (cy : Int))
  have HU4 : Hid (val (Z3.set H cy) = val (T.drop nn) * 2 ^ s) := by
    have e1 := sv_set_succ Z3 0 H cy (by omega)
    rw [Nat.zero_add, show H + 1 = H' by omega] at e1
    rw [HAH.out.2] at S3
    have e2 : sv (Z3.set H cy) 0 H' = val (Z3.set H cy) := sv_full (by rw [List.length_set]; exact l3)
    rw [e2] at e1
    rw [e1, ← S3, Nat.mul_comm cy]
    exact hide rfl
  have L4 := limbs_set L3 H cy hcy2
  have l4 : (Z3.set H cy).length = H' := by rw [List.length_set]; exact l3
  obtain ⟨w4, hw4⟩ : ∃ w4, w4 = w3.setCell ⟨gu, H, none⟩ (.int .u64 (cy : Int)) := ⟨_, rfl⟩
  rw [← hw4] at B4 F4
  have HX4 := hide ((F4.block w.heap.size (by omega) (by omega)).trans HX2.out)
  have HB4 := hide (HB2.out.trans (F4.below (by omega) HB2.out.size))
  have hsz4 : gu < w4.heap.size := B4.lt
  generalize Z3.set H cy = U4 at *
  generalize Z3.getD H 0 = z3 at *
  have HU := hide (And.intro B4 (And.intro L4 l4))
  have HW4 := hide hw4
  clear HSU O3 L3 B3 F3 S3 l3 B4 F4 L4 l4 HX2 HB2 hk0 hk1 hk2
  have d1 : (0 : Int) ≤ (H : Int) := by omega
  have d2 : (H : Int) < (H' : Int) := by omega
  obtain ⟨hk0, _, _⟩ := box3 HX4.out
  rw [HW4.out] at hk0
  go_wp2_with (at_make; rw [← HW4.out]; refine wpList_make_full _ rfl _ _ 24 rfl w4.heap.size 32 i0 (.int .u64 0) 1 Tryz.underlying24 hi hz0 hz1 .i64 .i64 _ _ m rfl rfl (by omega) (by omega) (by rw [hz2]; omega) (by unfold maxLen; omega) (Nat.le_refl _) ?_; intro w5 hown hgrow; obtain ⟨hk0, hk1, hk2⟩ := box3 ((((Below.refl w4.heap.size w4).grown hgrow (Nat.le_refl _) (fun k hk => by cases hk)).block w.heap.size (by omega)).trans HX4.out))
  obtain ⟨B4, L4, l4⟩ := HU.out
  obtain ⟨hV, lV, hj, ht, hL, HOK⟩ := HV.out
  have hm5 : Blk w5 w4.heap.size (List.replicate m 0) := Blk.made hown
  have hbel5 : Below w4.heap.size w4 w5 := (Below.refl _ _).grown hgrow (Nat.le_refl _) (fun k hk => by cases hk)
  have HX5 := hide ((hbel5.block w.heap.size (by omega)).trans HX4.out)
  have HB5 := hide (HB4.out.trans (hbel5.mono HB4.out.size))
  have hs4 : w4.heap.size = w3.heap.size := by rw [HW4.out]; simp
  obtain ⟨gq, hgq⟩ : ∃ gq, gq = w3.heap.size := ⟨_, rfl⟩
  rw [hs4, ← hgq] at hm5
  rw [← hgq]
  have hgq2 : gu < gq := by omega
  have hsz5 : gq < w5.heap.size := hm5.lt
  have AV : Arg w5 (.slice (some ⟨g, 0, none⟩) V.length L) V := by
    have h := (hV.below HB5.out hgw).seg_arg lV 0 V.length L (by omega) (by omega) (by omega) (by omega)
    rw [show seg V 0 V.length = V by simp [seg]] at h
    exact h
  have htab := HTT.out.1
  have HDV := HOK gq 0 m m gu 0 H' g 0 L (List.replicate m 0) U4 w5 hm5 (limbs_replicate _) (B4.below hbel5 (by omega)) L4 AV (HTT.out.below HB5.out) (by omega) (by omega) (by omega) (by omega) (by omega) (by simp) (Nat.le_refl _) (by omega) (by rw [l4, hL]; omega) (by rw [hL]; omega) (by omega) (by rw [hL]; omega)
    (by rw [hL]; exact shifted_lt (H := H) (j := j) (by rw [l4]; omega) (by omega) (by omega) HU4.out (by have := val_lt HAH.out.1.limbs; rw [HAH.out.2] at this; exact this) hs HE.out.2.2.1)
  rw [hL, show m + L = H' by omega] at HDV
  have HLIM := hide (And.intro hL (And.intro hj l4))
  have hgqs := hgq
  clear hown hgrow hbel5 hm5 hs4 AV B4 L4 l4 hV lV hj ht hL HOK HX4 HB4 HV HU htab hgq hgqs
  refine HDV.mono ?_
  rintro e w6 ⟨he, Q6, U6, hrel⟩
  subst he
  have HX6 := hide ((hrel.fr.block w.heap.size (by omega) (by omega) (by omega)).trans HX5.out)
  have HB6 := hide (show Below w.heap.size w w6 from ⟨hrel.fr.os.trans HB5.out.os, hrel.fr.tape.trans HB5.out.tape, hrel.fr.output.trans HB5.out.output, Nat.le_trans HB5.out.size hrel.fr.size, fun k hk => (hrel.fr.block k (by omega) (by omega) (by omega)).trans (HB5.out.block k hk)⟩)
  have hsz6 : gq < w6.heap.size := hrel.blkQ.lt
  have HR6 := hide hrel
  clear hrel HDV hk0 hk1 hk2 HX5 HB5
  obtain ⟨hk0, hk1, hk2⟩ := box3 HX6.out
  have lTk : (T.take nn).length = nn := by rw [List.length_take]; omega
  go_wp2_with (at_make; refine wpList_make_full _ rfl _ _ 24 rfl w6.heap.size 32 i0 (.int .u64 0) 1 Tryz.underlying24 hi hz0 hz1 .i64 .i64 _ _ n rfl rfl (by omega) (by omega) (by rw [hz2]; omega) (by unfold maxLen; omega) (Nat.le_refl _) ?_; intro w7 hown hgrow; obtain ⟨w8, M8, hcp, B8, L8, F8, O8, S8⟩ := copy_q w6.heap.size 0 n n (List.replicate n 0) (some ⟨b, off, none⟩) cap (T.take nn) w7 (Blk.made hown) (limbs_replicate _) (HA.out.front nn (by omega)).limbs (sv_zeros n 0 n) (by simp) (by rw [lTk]; omega) (Lies.arg ((HA.out.front nn (by omega)).below (HB6.out.trans (((Below.refl w6.heap.size w6).grown hgrow (Nat.le_refl _) (fun k hk => by cases hk)).mono HB6.out.size)))); rw [lTk] at hcp)
  have hbel7 : Below w6.heap.size w6 w7 := (Below.refl _ _).grown hgrow (Nat.le_refl _) (fun k hk => by cases hk)
  have hsz7 := hbel7.size
  obtain ⟨gr, hgr⟩ : ∃ gr, gr = w6.heap.size := ⟨_, rfl⟩
  rw [← hgr] at B8 F8 hcp ⊢
  have HB8 := hide (HB6.out.trans ((hbel7.mono HB6.out.size).trans (F8.below (by omega) (by omega))))
  have HX8 := hide ((F8.block w.heap.size (by omega) (by omega)).trans ((hbel7.block w.heap.size (by omega)).trans HX6.out))
  have yl : n - nn = L := by omega
  have hcn : ¬ n = nn := by omega
  have f0 : (nn : Int) ≤ (n : Int) := by omega
  have f1 : (0 : Int) ≤ (L : Int) := by omega
  have f2 : (L : Int) ≤ (H' : Int) := by omega
  have o6 := HR6.out.outU
  have l6 : U6.length = H' := by rw [o6.len]; exact HLIM.out.2.2
  have q6 : Q6.length = m := by rw [HR6.out.outQ.len, List.length_replicate]
  have BU8 := (HR6.out.blkU.below hbel7 (by omega)).frb F8 (by omega)
  have BQ8 := (HR6.out.blkQ.below hbel7 (by omega)).frb F8 (by omega)
  have lM : M8.length = n := by rw [O8.len, List.length_replicate]
  have HSD := shiftDown_any gr nn L L M8 (.slice (some ⟨gu, 0, none⟩) L H') (seg U6 0 L) s w8.drew (B8.below (Below.refl _ _).drew B8.lt) L8 (BU8.seg_arg HR6.out.limU 0 L H' (by omega) (by omega) (by omega) (by omega)).drew (aside_of (by omega) _ _) (by omega) (Nat.le_refl _) (by omega) (by rw [seg_length _ _ _ (by omega)]; exact Nat.le_refl _) (by rw [seg_length _ _ _ (by omega)]; exact Nat.le_refl _) hs
  have H8 := hide (And.intro L8 (And.intro O8 (And.intro S8 (And.intro lM (And.intro q6 BQ8)))))
  obtain ⟨hj0, hj1, hj2⟩ := box3 HX8.out
  have hsz8 := B8.lt
  have hgr2 : gq < gr := by omega
  clear hgr hown hgrow hbel7 hcp B8 F8 L8 O8 S8 lM o6 l6 q6 BU8 BQ8 HX6 HB6 hk0 hk1 hk2 hi hz0 hz1 hz2
  have hszb : w.heap.size < w8.drew.heap.size := by show w.heap.size < w8.heap.size; omega
  have hneb : w.heap.size ≠ gr := by omega
  go_region_held3 (fun w' => w'.cell? ⟨w.heap.size, 0, none⟩ = some (.slice (some ⟨g, 0, none⟩) L L) ∧ w'.cell? ⟨w.heap.size, 1, none⟩ = some (.int .i64 nn) ∧ w'.cell? ⟨w.heap.size, 2, none⟩ = some (.int .i64 s)) (go_keep) (first
    | (go_at_call 72; refine HSD.mono ?_; rintro e w9 ⟨he, M9, O9, L9, B9, F9, S9⟩; subst he; obtain ⟨hx0, hx1, hx2⟩ := box3 ((F9.block w.heap.size hszb hneb).trans HX8.out)))
  have HEND : Hid (BothDone w (val T) B X.length (.returned (.tuple #[.slice (some ⟨gq, 0, none⟩) m m, .slice (some ⟨gr, 0, none⟩) n n])) w9) := by
    obtain ⟨L8, O8, S8, lM, q6, BQ8⟩ := H8.out
    obtain ⟨eV, eB, _, h0⟩ := HE.out
    have hr := HR6.out
    have e1 := hr.eq
    have e2 := hr.lt
    simp only [Nat.add_zero, Nat.sub_zero] at e1 e2
    have l9 : M9.length = n := by rw [O9.len]; exact lM
    rw [sv_full q6, show L + m = H' by omega, sv_full HLIM.out.2.2, HU4.out, eV] at e1
    rw [eV] at e2
    have vt := val_take_lt' HA.out.limbs nn (by omega)
    have s8 := sv_split M8 0 nn L (by omega)
    rw [show nn + L = n by omega, S8] at s8
    have hP := sv_lt L8 0 nn
    have s8' : sv M8 0 nn = val (T.take nn) := by
      rcases Nat.eq_zero_or_pos (sv M8 (0 + nn) L) with z | z
      · rw [z, Nat.mul_zero] at s8; omega
      · have := Nat.mul_le_mul_left (18446744073709551616 ^ nn) z
        omega
    have s9 := sv_split M9 0 nn L (by omega)
    rw [show nn + L = n by omega, sv_full l9, O9.sv 0 nn (by omega), s8', Nat.zero_add, S9] at s9
    obtain ⟨r1, r2⟩ := both_val (Nat.two_pow_pos s) e1 e2 vt
    rw [← val_halves T nn (by omega), ← eB] at r1 r2
    have A1 := Ans.of_blk (base := w.heap.size) (zs := Q6) (show w.heap.size ≤ gq by omega) (BQ8.frb F9.undrew (by omega)) List.take_length.symm (Nat.le_refl _) (by omega) hr.limQ
    have A2 := Ans.of_blk (base := gr) (zs := M9) (Nat.le_refl gr) B9 List.take_length.symm (Nat.le_refl _) (by omega) L9
    rw [q6] at A1
    rw [l9] at A2
    have hb9 : Below w.heap.size w w9 := HB8.out.trans (F9.undrew.below (by omega) HB8.out.size)
    refine hide ⟨⟨_, _, Q6, M9, gr, rfl, A1, ⟨by omega, Nat.le_of_lt B9.lt⟩, (fun g' e => ?_), A2, r1, ?_, by omega, by omega, fun _ => by omega⟩, hb9⟩
    · have : g' = gq := by
        simp [Value.ownBlock] at e
        exact e.symm
      omega
    · rw [s9]; exact r2
  clear H8 HR6 O9 L9 B9 F9 S9 HSD hx0 hx1 hx2 hj0 hj1 hj2
  go_wp2
  go_ret2
  exact HEND.out

theorem both_any (va vd : Value) (X : List Nat) (base B n : Nat) (w : World) (hA : Arg w va X) (hD : Dvs w base vd B n) (hT : Tab w) (hfew : X.length ≤ 17592186044416) :
    Calls Tryz.prog 53 #[vd, va] w (BothDone w (val X) B X.length) := by
  by_cases h : (tr X).length < n
  · exact both_few va vd X base B n w hA hD h hfew
  · exact both_many va vd X base B n w hA hD hT (by omega) hfew

end Go.Proofs.YtppblbhkghjphaaGreatDoor
