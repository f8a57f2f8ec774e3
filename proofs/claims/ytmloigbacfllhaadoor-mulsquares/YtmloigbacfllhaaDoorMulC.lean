/- Package mul: school. -/
import Derived.Test.YtmloigbacfllhaaDoorMulB
import Derived.Test.YtmloigbacfllhaaDoorShift
import Derived.Lib.SliceRun
namespace Go.Proofs.YtmloigbacfllhaaDoor
open Go.RowKit
open Lm
attribute [local go_sem ↓] Go.wp_at_zero Go.wp_at_succ

/-- Limbs laid from o on. -/
def lay (Z : List Nat) (o : Nat) : List Nat → List Nat
  | [] => Z
  | p :: r => lay (Z.set o p) (o + 1) r

theorem lay_length (P : List Nat) : ∀ (Z : List Nat) (o : Nat), (lay Z o P).length = Z.length := by
  induction P with
  | nil => intro Z o; rfl
  | cons p r ih => intro Z o; rw [lay, ih]; simp

theorem lay_out (P : List Nat) : ∀ (Z : List Nat) (o : Nat), Out Z (lay Z o P) o (o + P.length) := by
  induction P with
  | nil => intro Z o; exact Out.refl _ _ _
  | cons p r ih =>
    intro Z o
    have h1 : Out Z (Z.set o p) o (o + (p :: r).length) := (Out.refl _ _ _).set _ _ (Nat.le_refl _) (by simp)
    exact h1.trans ((ih (Z.set o p) (o + 1)).wider (by omega) (by simp; omega))

theorem lay_sv (P : List Nat) : ∀ (Z : List Nat) (o : Nat), o + P.length ≤ Z.length → sv (lay Z o P) o P.length = val P := by
  induction P with
  | nil => intro Z o _; exact sv_zero _ _
  | cons p r ih =>
    intro Z o h
    have hl : o + r.length + 1 ≤ Z.length := by simpa [Nat.add_assoc] using h
    rw [show (p :: r).length = 1 + r.length by simp; omega, sv_split _ _ _ _ (by rw [lay_length]; omega), sv_one _ _ (by rw [lay_length]; omega), lay, ih _ _ (by simp; omega)]
    have h2 := (lay_out r (Z.set o p) (o + 1)).same o (by omega)
    rw [h2, getD_set, if_pos ⟨rfl, by omega⟩, val, Nat.pow_one]

theorem lay_limbs (P : List Nat) (hP : Limbs P) : ∀ (Z : List Nat) (o : Nat), Limbs Z → Limbs (lay Z o P) := by
  induction P with
  | nil => intro Z o h; exact h
  | cons p r ih => intro Z o h; exact ih (fun z hz => hP z (List.mem_cons_of_mem _ hz)) _ _ (limbs_set h _ _ (hP p (List.mem_cons_self ..)))

theorem Blk.setCells {b : Nat} (P : List Nat) : ∀ {w : World} {Z : List Nat} (o : Nat), Blk w b Z → Blk (w.setCells b o (P.map lv)) b (lay Z o P) := by
  induction P with
  | nil => intro w Z o h; exact h
  | cons p r ih => intro w Z o h; exact ih (o + 1) (h.set o p)

theorem Fr.setCells {b : Nat} (P : List Value) : ∀ {a w : World} (o : Nat), Fr b a w → Fr b a (w.setCells b o P) := by
  induction P with
  | nil => intro a w o h; exact h
  | cons p r ih => intro a w o h; exact ih (o + 1) (h.setCell o p)

theorem zeroU (w : World) : (zeroValue 38).run Tryd.prog w = .ok (.int .u64 0) w := by kernel_rfl

theorem clear_run (bz zo n cap : Nat) (Z : List Nat) (w : World) (ty : TypeId) (hB : Blk w bz Z) (hz : zo + n ≤ Z.length) (hn : 0 < n) :
    (Builtin.clear_ #[23] ty #[.slice (some ⟨bz, zo, none⟩) n cap]).run Tryd.prog w = .ok (.tuple #[]) (w.setCells bz zo ((List.replicate n 0).map lv)) := by
  rw [Lib.run_clear_slice w 23 38 ty (.int .u64 0) Tryd.underlying23 zeroU rfl rfl bz zo n cap hn (fun j hj => by rw [hB.cell (zo + j) (by omega)]; rfl) (fun j hj => hB.free (zo + j)), List.map_replicate]
  rfl

theorem school_step (Z Z2 X Y : List Nat) (o k m cy : Nat) (hl : Z2.length = Z.length) (hk : k < Y.length) (hZ : o + (X.length + Y.length) ≤ Z.length) (hm : m = Y.getD k 0)
    (h : sv Z o (k + X.length) = val X * val (Y.take k)) (ho : Out Z Z2 (o + k) (o + k + X.length))
    (h2 : sv Z2 (o + k) X.length + cy * 18446744073709551616 ^ X.length = sv Z (o + k) X.length + val X * m) :
    sv (Z2.set (o + (k + X.length)) cy) o (k + 1 + X.length) = val X * val (Y.take (k + 1)) := by
  rw [show k + 1 + X.length = k + X.length + 1 by omega, sv_set_succ _ _ _ _ (by omega), sv_split _ _ _ _ (by omega), ho.sv o k (by omega), val_take_next Y k, ← hm, Nat.pow_add]
  rw [sv_split _ _ _ _ (by omega)] at h
  generalize sv Z o k = A at *
  generalize sv Z2 (o + k) X.length = B2 at *
  generalize sv Z (o + k) X.length = B at *
  generalize val (Y.take k) = V at *
  generalize val X = U at *
  generalize (18446744073709551616 : Nat) ^ k = K at *
  generalize (18446744073709551616 : Nat) ^ X.length = L at *
  grind

set_option maxHeartbeats 800000 in
theorem school_any (bz zo cap : Nat) (Z : List Nat) (va vb : Value) (X Y : List Nat) (w : World) (hB : Blk w bz Z) (hLZ : Limbs Z) (hA : Arg w va X) (hA2 : Arg w vb Y)
    (ho : Off va bz zo (zo + (X.length + Y.length))) (ho2 : Off vb bz zo (zo + (X.length + Y.length))) (hzo : zo + (X.length + Y.length) ≤ Z.length) (hc1 : X.length + Y.length ≤ cap) (hc2 : cap ≤ 9223372036854775807) :
    Calls Tryd.prog 75 #[.slice (some ⟨bz, zo, none⟩) (X.length + Y.length) cap, va, vb] w fun e w' => e = .returned (.tuple #[]) ∧ ∃ Z' : List Nat,
      Out Z Z' zo (zo + (X.length + Y.length)) ∧ Limbs Z' ∧ Blk w' bz Z' ∧ Fr bz w w' ∧ sv Z' zo (X.length + Y.length) = val X * val Y := by
  obtain ⟨a1, c1, rfl, hcc1, hcm1, hl1⟩ := hA.form
  obtain ⟨a2, c2, rfl, hcc2, hcm2, hl2⟩ := hA2.form
  have hao2 : ∀ b off, a2 = some ⟨b, off, none⟩ → b ≠ bz ∨ off + Y.length ≤ zo ∨ zo + (X.length + Y.length) ≤ off := fun b off e => by subst e; exact ho2 b off _ _ rfl
  have fX := hA.few
  have fY := hA2.few
  have mY := hA2.limbs
  -- behind 'clear'
  obtain ⟨w1, Z1, hrun, hout1, hlz1, hb1, hf1, hs1⟩ : ∃ (w1 : World) (Z1 : List Nat), (∀ ty, (Builtin.clear_ #[23] ty #[.slice (some ⟨bz, zo, none⟩) (X.length + Y.length) cap]).run Tryd.prog w = .ok (.tuple #[]) w1) ∧ Out Z Z1 zo (zo + (X.length + Y.length)) ∧ Limbs Z1 ∧ Blk w1 bz Z1 ∧ Fr bz w w1 ∧ sv Z1 zo (X.length + Y.length) = 0 := by
    rcases Nat.eq_zero_or_pos (X.length + Y.length) with h0 | h0
    · refine ⟨w, Z, fun ty => ?_, Out.refl _ _ _, hLZ, hB, Fr.refl _ _, by rw [h0]; exact sv_zero _ _⟩
      rw [h0]
      simp [Builtin.clear_, run_underlying Tryd.underlying23]
    · have hlr : (List.replicate (X.length + Y.length) 0).length = X.length + Y.length := by simp
      have e1 := lay_out (List.replicate (X.length + Y.length) 0) Z zo
      have e2 := lay_sv (List.replicate (X.length + Y.length) 0) Z zo (by rw [hlr]; exact hzo)
      rw [hlr] at e1 e2
      exact ⟨_, lay Z zo (List.replicate (X.length + Y.length) 0), fun ty => clear_run bz zo _ cap Z w ty hB hzo h0, e1, lay_limbs _ (limbs_replicate _) _ _ hLZ, Blk.setCells _ _ hB, (Fr.refl _ _).setCells _ _, by rw [e2, val_replicate]⟩
  have hs0 : sv Z1 zo X.length = 0 := by
    rw [sv_split _ _ _ _ (by have := hout1.len; omega)] at hs1; omega
  have HO1 := hide hout1
  have HF1 := hide hf1
  have HL1 := hide hb1
  clear hs1
  go_enter Tryd.func75, Tryd.ntmps75
  go_wp2
  go_loopw [11] (fun i wr => ∃ (k : Nat) (Z' : List Nat), k ≤ Y.length ∧ i = .int .i64 k ∧ Out Z Z' zo (zo + (X.length + Y.length)) ∧ Limbs Z' ∧ Blk wr bz Z' ∧ Fr bz w wr ∧
      sv Z' zo (k + X.length) = val X * val (Y.take k)) (fun i _ => Y.length - (intOf i).toNat)
  case atStart => exact ⟨0, Z1, Nat.zero_le _, rfl, HO1.out, hlz1, HL1.out, HF1.out, by rw [Nat.zero_add, hs0]; simp [val]⟩
  case round =>
    obtain ⟨k, Z', hk, rfl, hout, hlz, hblk, hfr0, hval⟩ := hrel
    clear hrun hout1 hlz1 hb1 hf1 hs0 HO1 HF1 HL1
    by_cases hkl : k < Y.length
    · rcases hl2.fr hao2 hfr0 hB hblk hout with h0 | ⟨b, off, rfl, hcell⟩
      · rw [h0] at hkl; simp at hkl
      · have hck := hcell k hkl
        have z2 := limb_lt mY k
        have hlen := hout.len
        have hA' : Arg wr (.slice a1 X.length c1) X := hA.fr ho hfr0 hB hblk hout
        have HM := addTimes_any bz (zo + k) (cap - k) Z' _ X (Y.getD k 0) wr hblk hlz hA' (fun b off n c e => by rcases ho b off n c e with h | h | h <;> omega) (by omega) (by omega) (by omega) z2
        have HS := hide (fun Z2 cy hl2 hO2 h2 => school_step Z' Z2 X Y zo k (Y.getD k 0) cy hl2 hkl (by omega) rfl hval hO2 h2)
        have HO := hide hout
        have HF := hide hfr0
        generalize Y.getD k 0 = m at *
        obtain ⟨t, ht1, ht2, e1, e2⟩ : ∃ t : Nat, t ≤ k + X.length ∧ k + X.length ≤ t ∧ (k : Int) + (X.length : Int) = (t : Int) ∧ t - k = X.length := ⟨k + X.length, by omega, by omega, by omega, by omega⟩
        have hb1 : (0 : Int) ≤ (k : Int) := by omega
        have hkn : k ≤ k + X.length := by omega
        have hkc : k + X.length ≤ cap := by omega
        clear hcell hblk hfr0 hout hval hA hA2 ho ho2 hl1 hl2 hB hLZ mY hao2 hA'
        go_wp2_with fail
        refine HM.mono ?_
        rintro e w2 ⟨cy, Z2, rfl, hcy, hO2, hlz2, hb2, hf2, hv2⟩
        have HS2 := hide (HS.out Z2 cy hO2.len hO2 hv2)
        have hl2 := hO2.len
        have hfr := hb2.free (zo + t)
        have hco := hb2.cell (zo + t) (by omega)
        generalize Z2.getD (zo + t) 0 = o at *
        have HB2 := hide hb2
        have HF2 := hide (HF.out.trans hf2)
        have HO2 := hide (HO.out.trans (hO2.wider (by omega) (by omega)))
        have ht3 : t < X.length + Y.length := by omega
        clear HM HS hO2 hb2 hf2 hv2 HF HO
        go_wp2
        go_roundw
        case rel =>
          refine ⟨k + 1, Z2.set (zo + t) cy, by omega, by go_num, HO2.out.set _ _ (by omega) (by omega), limbs_set hlz2 _ _ hcy, HB2.out.set _ cy, HF2.out.setCell _ _, ?_⟩
          rw [show t = k + X.length by omega]; exact HS2.out
        case measure => simp [intOf]; omega
    · have ek : k = Y.length := by omega
      subst ek
      rw [List.take_length, Nat.add_comm] at hval
      have HV := hide hval
      have HB := hide hblk
      have HF := hide hfr0
      have HO := hide hout
      clear hval hblk hfr0 hout hl1 hl2 hB hA hA2 ho ho2 hLZ
      go_wp2
      go_end0
      exact ⟨rfl, Z', HO.out, hlz, HB.out, HF.out, HV.out⟩

end Go.Proofs.YtmloigbacfllhaaDoor
