/- Package mul: limbs written over in place; trim. -/
import Derived.Test.YtppblbhkghjphaaGreatDoorQA
import Derived.Test.YtppblbhkghjphaaGreatDoorQB
import Derived.Lib.SliceRun
import Derived.Deep.RegionHeld3
import Derived.Handy
namespace Go.Proofs.YtppblbhkghjphaaGreatDoor
open Go.RowKit
open Lm

theorem mtrim_some (b off cap : Nat) (zs : List Nat) (w : World) (hcap : zs.length ≤ cap) (hmax : cap ≤ 9223372036854775807)
    (hc : ∀ k, k < zs.length → w.cell? ⟨b, off + k, none⟩ = some (.int .u64 ((zs.getD k 0 : Nat) : Int))) :
    Calls Tryz.prog 121 #[.slice (some ⟨b, off, none⟩) zs.length cap] w fun e w' => e = .returned (.slice (some ⟨b, off, none⟩) (tr zs).length cap) ∧ w' = w := by
  go_enter Tryz.func121, Tryz.ntmps121
  go_wp2
  go_loop [3] (fun n => ∃ k : Nat, k ≤ zs.length ∧ n = .int .i64 k ∧ tr (zs.take k) = tr zs) (fun n => (intOf n).toNat)
  case atStart => exact ⟨zs.length, Nat.le_refl _, rfl, by rw [List.take_length]⟩
  case round =>
    obtain ⟨k, hk, rfl, ht⟩ := hrel
    have HT : Hid (tr (zs.take k) = tr zs) := ht
    clear ht
    by_cases h0 : k = 0
    · subst h0
      go_wp2
      go_ret
      have e := HT.out
      simp only [List.take_zero, tr] at e
      rw [← e]
      exact ⟨rfl, rfl⟩
    · obtain ⟨j, rfl⟩ : ∃ j, k = j + 1 := ⟨k - 1, by omega⟩
      have hcj := hc j (by omega)
      clear hc
      by_cases hz : zs.getD j 0 = 0
      · have HZ : Hid (tr (zs.take j) = tr zs) := by rw [← tr_step zs j (by omega) hz]; exact HT.out
        rw [hz] at hcj
        clear hz HT
        go_wp2
        go_round
        case rel => exact ⟨j, by omega, by go_num, HZ.out⟩
        case measure => simp [intOf]
      · have HZ : Hid (tr zs = zs.take (j + 1)) := by rw [← HT.out]; exact tr_stop zs j (by omega) hz
        clear HT
        generalize zs.getD j 0 = z at hcj hz
        have hne : ((z : Int) == 0) = false := by rw [beq_eq_false_iff_ne]; omega
        clear hz
        go_wp2
        go_ret
        rw [HZ.out]
        have e : (zs.take (j + 1)).length = j + 1 := by simp; omega
        rw [e]
        exact ⟨rfl, rfl⟩

/-- An empty list: whatever its address. -/
theorem mtrim_none (ao : Option Addr) (cap : Nat) (w : World) (_hmax : cap ≤ 9223372036854775807) :
    Calls Tryz.prog 121 #[.slice ao 0 cap] w fun e w' => e = .returned (.slice ao 0 cap) ∧ w' = w := by
  go_enter Tryz.func121, Tryz.ntmps121
  go_wp2
  refine wp_loop_rounds 1 ?_
  rw [rounds_succ]
  go_wp2
  go_ret
  exact ⟨rfl, rfl⟩

theorem mtrim_any (ao : Option Addr) (cap : Nat) (zs : List Nat) (w : World) (hcap : zs.length ≤ cap) (hmax : cap ≤ 9223372036854775807) (hl : Lies w ao zs) :
    Calls Tryz.prog 121 #[.slice ao zs.length cap] w fun e w' => e = .returned (.slice ao (tr zs).length cap) ∧ w' = w := by
  rcases hl with rfl | ⟨b, off, rfl, hc⟩
  · exact mtrim_none ao cap w hmax
  · exact mtrim_some b off cap zs w hcap hmax hc

/-- Only block bz, and new memory, have turned. -/
structure Fr (bz : Nat) (w w' : World) : Prop where
  os : w'.os = w.os
  tape : w'.tape = w.tape
  output : w'.output = w.output
  size : w.heap.size ≤ w'.heap.size
  block : ∀ k, k < w.heap.size → k ≠ bz → w'.heap[k]? = w.heap[k]?

theorem Fr.refl (bz : Nat) (w : World) : Fr bz w w := ⟨rfl, rfl, rfl, Nat.le_refl _, fun _ _ _ => rfl⟩

theorem Fr.trans {bz : Nat} {a b c : World} (h : Fr bz a b) (k : Fr bz b c) : Fr bz a c :=
  ⟨k.os.trans h.os, k.tape.trans h.tape, k.output.trans h.output, Nat.le_trans h.size k.size, fun i h1 h2 => (k.block i (Nat.lt_of_lt_of_le h1 h.size) h2).trans (h.block i h1 h2)⟩

theorem Fr.setCell {bz : Nat} {a w : World} (h : Fr bz a w) (off : Nat) (u : Value) : Fr bz a (w.setCell ⟨bz, off, none⟩ u) :=
  ⟨h.os, h.tape, h.output, by simpa using h.size, fun k h1 h2 => (Below.heap_setCell w _ u k h2).trans (h.block k h1 h2)⟩

theorem Fr.drew {bz : Nat} {a w : World} (h : Fr bz a w) : Fr bz a w.drew := ⟨h.os, h.tape, h.output, h.size, h.block⟩

theorem Fr.of_below {bz : Nat} {w w' : World} (h : Below w.heap.size w w') : Fr bz w w' := ⟨h.os, h.tape, h.output, h.size, fun k h1 _ => h.block k h1⟩

/-- What is newer than the base may turn: so nothing below has. -/
theorem Fr.below {bz base : Nat} {w w' : World} (h : Fr bz w w') (h1 : base ≤ bz) (h2 : base ≤ w.heap.size) : Below base w w' :=
  ⟨h.os, h.tape, h.output, h.size, fun k hk => h.block k (by omega) (by omega)⟩

/-- A list of limbs that lies off a piece of block bz. -/
def Off (v : Value) (bz lo hi : Nat) : Prop := ∀ b off n c, v = .slice (some ⟨b, off, none⟩) n c → b ≠ bz ∨ off + n ≤ lo ∨ hi ≤ off

theorem Lies.fr {w w' : World} {ao : Option Addr} {X Z Z' : List Nat} {bz lo hi : Nat} (h : Lies w ao X) (ho : ∀ b off, ao = some ⟨b, off, none⟩ → b ≠ bz ∨ off + X.length ≤ lo ∨ hi ≤ off)
    (hf : Fr bz w w') (hb : Blk w bz Z) (hb' : Blk w' bz Z') (hz : Out Z Z' lo hi) : Lies w' ao X := by
  rcases h with h | ⟨b, off, rfl, hc⟩
  · exact .inl h
  · rcases Nat.eq_zero_or_pos X.length with h0 | h0
    · exact .inl (List.length_eq_zero_iff.1 h0)
    refine .inr ⟨b, off, rfl, fun k hk => ?_⟩
    have hlt : b < w.heap.size := Lies.block (zs := X) (.inr ⟨b, off, rfl, hc⟩) h0
    by_cases hbz : b = bz
    · subst hbz
      have h1 := hc k hk
      have hin : off + k < Z.length := by
        refine Nat.lt_of_not_le fun hle => ?_
        have : w.cell? ⟨b, off + k, none⟩ = none := by
          unfold Blk at hb
          simp [World.cell?, hb]; omega
        rw [this] at h1; cases h1
      rw [hb.cell _ hin] at h1
      rw [hb'.cell _ (by rw [hz.len]; exact hin), hz.same _ (by have := ho b off rfl; omega)]
      exact h1
    · have := hf.block b hlt hbz
      rw [World.cell?_of_block (w := w) this]
      exact hc k hk

theorem Arg.fr {w w' : World} {v : Value} {X Z Z' : List Nat} {bz lo hi : Nat} (h : Arg w v X) (ho : Off v bz lo hi)
    (hf : Fr bz w w') (hb : Blk w bz Z) (hb' : Blk w' bz Z') (hz : Out Z Z' lo hi) : Arg w' v X := by
  obtain ⟨ao, cap, h1, h2, h3, h4⟩ := h.form
  exact ⟨⟨ao, cap, h1, h2, h3, h4.fr (fun b off e => by subst e; exact ho b off _ _ h1) hf hb hb' hz⟩, h.limbs, h.few, h.nz⟩

end Go.Proofs.YtppblbhkghjphaaGreatDoor

/- Package mul: addTimes. -/
namespace Go.Proofs.YtppblbhkghjphaaGreatDoor
open Go.RowKit
open Lm
attribute [local go_sem ↓] Go.wp_at_zero Go.wp_at_succ

theorem addTimes_limb (P z cy : Nat) (h : P + z + cy < 340282366920938463463374607431768211456) (_hz : z < 18446744073709551616) (_hc : cy < 18446744073709551616) :
    ((P % 18446744073709551616 + z) % 18446744073709551616 + cy) % 18446744073709551616 + (P / 18446744073709551616 + (P % 18446744073709551616 + z) / 18446744073709551616 + ((P % 18446744073709551616 + z) % 18446744073709551616 + cy) / 18446744073709551616) * 18446744073709551616 = P + z + cy ∧
    P / 18446744073709551616 + (P % 18446744073709551616 + z) / 18446744073709551616 < 18446744073709551616 ∧
    P / 18446744073709551616 + (P % 18446744073709551616 + z) / 18446744073709551616 + ((P % 18446744073709551616 + z) % 18446744073709551616 + cy) / 18446744073709551616 < 18446744073709551616 ∧
    ((P % 18446744073709551616 + z) % 18446744073709551616 + cy) % 18446744073709551616 < 18446744073709551616 := by
  omega

set_option maxHeartbeats 800000 in
theorem addTimes_any (bz zo cap : Nat) (Z : List Nat) (v1 : Value) (X : List Nat) (m : Nat) (w : World) (hB : Blk w bz Z) (hLZ : Limbs Z) (hA : Arg w v1 X) (ho : Off v1 bz zo (zo + X.length))
    (hzo : zo + X.length ≤ Z.length) (hc1 : X.length ≤ cap) (hc2 : cap ≤ 9223372036854775807) (hm : m < 18446744073709551616) :
    Calls Tryz.prog 127 #[.slice (some ⟨bz, zo, none⟩) X.length cap, v1, .int .u64 m] w fun e w' => ∃ (cy : Nat) (Z' : List Nat), e = .returned (.int .u64 (cy : Int)) ∧ cy < 18446744073709551616 ∧
      Out Z Z' zo (zo + X.length) ∧ Limbs Z' ∧ Blk w' bz Z' ∧ Fr bz w w' ∧ sv Z' zo X.length + cy * 18446744073709551616 ^ X.length = sv Z zo X.length + val X * m := by
  obtain ⟨a1, c1, rfl, hcc1, hcm1, hl1⟩ := hA.form
  have M1 := hA.limbs
  have hX := hA.few
  have hao : ∀ b off, a1 = some ⟨b, off, none⟩ → b ≠ bz ∨ off + X.length ≤ zo ∨ zo + X.length ≤ off := fun b off e => by subst e; exact ho b off _ _ rfl
  clear ho hA
  go_enter Tryz.func127, Tryz.ntmps127
  go_wp2
  go_loopw [7, 16] (fun c i wr => ∃ (k cy : Nat) (Z' : List Nat), k ≤ X.length ∧ i = .int .i64 k ∧ c = .int .u64 cy ∧ cy < 18446744073709551616 ∧ Out Z Z' zo (zo + k) ∧ Limbs Z' ∧ Blk wr bz Z' ∧ Fr bz w wr ∧
      sv Z' zo k + cy * 18446744073709551616 ^ k = sv Z zo k + val (X.take k) * m) (fun _ i _ => X.length - (intOf i).toNat)
  case atStart => exact ⟨0, 0, Z, Nat.zero_le _, rfl, rfl, by omega, Out.refl _ _ _, hLZ, hB, Fr.refl _ _, by simp [sv_zero, val]⟩
  case round =>
    obtain ⟨k, cy, Z', hk, rfl, rfl, hcy, hout, hlz, hblk, hfr0, hval⟩ := hrel
    have HV := hide hval
    have HB := hide hblk
    have HF := hide hfr0
    have HO := hide hout
    have hl := hout.len
    clear hval
    by_cases hkl : k < X.length
    · rcases hl1.fr hao hfr0 hB hblk (hout.wider (Nat.le_refl _) (by omega)) with h0 | ⟨b, off, rfl, hcell⟩
      · rw [h0] at hkl; simp at hkl
      · have hck := hcell k hkl
        have hfr := hblk.free (zo + k)
        have hco := hblk.cell (zo + k) (by omega)
        have z1 := limb_lt M1 k
        have z2 := limb_lt hlz (zo + k)
        have hsame := hout.same (zo + k) (by omega)
        have hft := addTimes_fit (X.getD k 0) m (Z'.getD (zo + k) 0) cy z1 hm z2 hcy
        have hlm := addTimes_limb (X.getD k 0 * m) (Z'.getD (zo + k) 0) cy hft z2 hcy
        have HS := hide (fun hi lo hs => addTimes_step Z Z' X zo k m cy hi lo (by omega) hsame hl HV.out hs)
        rw [← hsame] at HS
        have ha1 := add64_0 (X.getD k 0 * m % 18446744073709551616) (Z'.getD (zo + k) 0)
        have ha2 := add64_0 ((X.getD k 0 * m % 18446744073709551616 + Z'.getD (zo + k) 0) % 18446744073709551616) cy
        have hM := Tryz.bits_Mul64 (X.getD k 0) m z1 hm wr
        generalize Z'.getD (zo + k) 0 = z at *
        generalize X.getD k 0 = x at *
        generalize hP : x * m = P at *
        clear hP hft hsame
        obtain ⟨q1, q2, q3, q4⟩ := hlm
        have HS2 := hide (HS.out _ _ q1)
        clear HS q1
        generalize ((P % 18446744073709551616 + z) % 18446744073709551616 + cy) % 18446744073709551616 = s at *
        generalize ((P % 18446744073709551616 + z) % 18446744073709551616 + cy) / 18446744073709551616 = o2 at *
        generalize (P % 18446744073709551616 + z) % 18446744073709551616 = s1 at *
        generalize (P % 18446744073709551616 + z) / 18446744073709551616 = o1 at *
        generalize P / 18446744073709551616 = h1 at *
        generalize P % 18446744073709551616 = l1 at *
        have e1 : (h1 : Int) + (o1 : Int) = ((h1 + o1 : Nat) : Int) := by omega
        generalize h1 + o1 = h2 at *
        have e2 : (h2 : Int) + (o2 : Int) = ((h2 + o2 : Nat) : Int) := by omega
        generalize h2 + o2 = h3 at *
        clear hcell hblk hfr0 hout HV M1 hl1 hB hLZ
        go_wp2_with fail
        refine hM.mono ?_
        rintro e w2 ⟨rfl, rfl⟩
        clear hM
        go_wp2
        go_roundw
        case rel => exact ⟨k + 1, h3, Z'.set (zo + k) s, by omega, by go_num, rfl, q3, (HO.out.wider (Nat.le_refl _) (by omega)).set _ _ (by omega) (by omega), limbs_set hlz _ _ q4, HB.out.set _ s, HF.out.setCell _ _, HS2.out⟩
        case measure => simp [intOf]; omega
    · have ek : k = X.length := by omega
      subst ek
      rw [List.take_length] at HV
      clear hblk hfr0 hout hl1 hB
      go_wp2
      go_ret
      exact ⟨cy, Z', rfl, hcy, HO.out, hlz, HB.out, HF.out, HV.out⟩

end Go.Proofs.YtppblbhkghjphaaGreatDoor

/- Package mul: school. -/
namespace Go.Proofs.YtppblbhkghjphaaGreatDoor
open Go.RowKit
open Lm
attribute [local go_sem ↓] Go.wp_at_zero Go.wp_at_succ

/-- Limbs laid from o on. -/
def lay (Z : List Nat) (o : Nat) : List Nat → List Nat
  | [] => Z
  | p :: r => lay (Z.set o p) (o + 1) r

theorem lay_length (P : List Nat) : ∀ (Z : List Nat) (o : Nat), (lay Z o P).length = Z.length := by
  induction P with
  | nil => intro Z o; rfl
  | cons p r ih => intro Z o; rw [lay, ih]; simp

theorem lay_out (P : List Nat) : ∀ (Z : List Nat) (o : Nat), Out Z (lay Z o P) o (o + P.length) := by
  induction P with
  | nil => intro Z o; exact Out.refl _ _ _
  | cons p r ih =>
    intro Z o
    have h1 : Out Z (Z.set o p) o (o + (p :: r).length) := (Out.refl _ _ _).set _ _ (Nat.le_refl _) (by simp)
    exact h1.trans ((ih (Z.set o p) (o + 1)).wider (by omega) (by simp; omega))

theorem lay_sv (P : List Nat) : ∀ (Z : List Nat) (o : Nat), o + P.length ≤ Z.length → sv (lay Z o P) o P.length = val P := by
  induction P with
  | nil => intro Z o _; exact sv_zero _ _
  | cons p r ih =>
    intro Z o h
    have hl : o + r.length + 1 ≤ Z.length := by simpa [Nat.add_assoc] using h
    rw [show (p :: r).length = 1 + r.length by simp; omega, sv_split _ _ _ _ (by rw [lay_length]; omega), sv_one _ _ (by rw [lay_length]; omega), lay, ih _ _ (by simp; omega)]
    have h2 := (lay_out r (Z.set o p) (o + 1)).same o (by omega)
    rw [h2, getD_set, if_pos ⟨rfl, by omega⟩, val, Nat.pow_one]

theorem lay_limbs (P : List Nat) (hP : Limbs P) : ∀ (Z : List Nat) (o : Nat), Limbs Z → Limbs (lay Z o P) := by
  induction P with
  | nil => intro Z o h; exact h
  | cons p r ih => intro Z o h; exact ih (fun z hz => hP z (List.mem_cons_of_mem _ hz)) _ _ (limbs_set h _ _ (hP p (List.mem_cons_self ..)))

theorem Blk.setCells {b : Nat} (P : List Nat) : ∀ {w : World} {Z : List Nat} (o : Nat), Blk w b Z → Blk (w.setCells b o (P.map lv)) b (lay Z o P) := by
  induction P with
  | nil => intro w Z o h; exact h
  | cons p r ih => intro w Z o h; exact ih (o + 1) (h.set o p)

theorem Fr.setCells {b : Nat} (P : List Value) : ∀ {a w : World} (o : Nat), Fr b a w → Fr b a (w.setCells b o P) := by
  induction P with
  | nil => intro a w o h; exact h
  | cons p r ih => intro a w o h; exact ih (o + 1) (h.setCell o p)

theorem zeroU (w : World) : (zeroValue 32).run Tryz.prog w = .ok (.int .u64 0) w := by kernel_rfl

theorem clear_run (bz zo n cap : Nat) (Z : List Nat) (w : World) (ty : TypeId) (hB : Blk w bz Z) (hz : zo + n ≤ Z.length) (hn : 0 < n) :
    (Builtin.clear_ #[24] ty #[.slice (some ⟨bz, zo, none⟩) n cap]).run Tryz.prog w = .ok (.tuple #[]) (w.setCells bz zo ((List.replicate n 0).map lv)) := by
  rw [Lib.run_clear_slice w 24 32 ty (.int .u64 0) Tryz.underlying24 zeroU rfl rfl bz zo n cap hn (fun j hj => by rw [hB.cell (zo + j) (by omega)]; rfl) (fun j hj => hB.free (zo + j)), List.map_replicate]
  rfl

theorem school_step (Z Z2 X Y : List Nat) (o k m cy : Nat) (hl : Z2.length = Z.length) (hk : k < Y.length) (hZ : o + (X.length + Y.length) ≤ Z.length) (hm : m = Y.getD k 0)
    (h : sv Z o (k + X.length) = val X * val (Y.take k)) (ho : Out Z Z2 (o + k) (o + k + X.length))
    (h2 : sv Z2 (o + k) X.length + cy * 18446744073709551616 ^ X.length = sv Z (o + k) X.length + val X * m) :
    sv (Z2.set (o + (k + X.length)) cy) o (k + 1 + X.length) = val X * val (Y.take (k + 1)) := by
  rw [show k + 1 + X.length = k + X.length + 1 by omega, sv_set_succ _ _ _ _ (by omega), sv_split _ _ _ _ (by omega), ho.sv o k (by omega), val_take_next Y k, ← hm, Nat.pow_add]
  rw [sv_split _ _ _ _ (by omega)] at h
  generalize sv Z o k = A at *
  generalize sv Z2 (o + k) X.length = B2 at *
  generalize sv Z (o + k) X.length = B at *
  generalize val (Y.take k) = V at *
  generalize val X = U at *
  generalize (18446744073709551616 : Nat) ^ k = K at *
  generalize (18446744073709551616 : Nat) ^ X.length = L at *
  grind

set_option maxHeartbeats 800000 in
theorem school_any (bz zo cap : Nat) (Z : List Nat) (va vb : Value) (X Y : List Nat) (w : World) (hB : Blk w bz Z) (hLZ : Limbs Z) (hA : Arg w va X) (hA2 : Arg w vb Y)
    (ho : Off va bz zo (zo + (X.length + Y.length))) (ho2 : Off vb bz zo (zo + (X.length + Y.length))) (hzo : zo + (X.length + Y.length) ≤ Z.length) (hc1 : X.length + Y.length ≤ cap) (hc2 : cap ≤ 9223372036854775807) :
    Calls Tryz.prog 123 #[.slice (some ⟨bz, zo, none⟩) (X.length + Y.length) cap, va, vb] w fun e w' => e = .returned (.tuple #[]) ∧ ∃ Z' : List Nat,
      Out Z Z' zo (zo + (X.length + Y.length)) ∧ Limbs Z' ∧ Blk w' bz Z' ∧ Fr bz w w' ∧ sv Z' zo (X.length + Y.length) = val X * val Y := by
  obtain ⟨a1, c1, rfl, hcc1, hcm1, hl1⟩ := hA.form
  obtain ⟨a2, c2, rfl, hcc2, hcm2, hl2⟩ := hA2.form
  have hao2 : ∀ b off, a2 = some ⟨b, off, none⟩ → b ≠ bz ∨ off + Y.length ≤ zo ∨ zo + (X.length + Y.length) ≤ off := fun b off e => by subst e; exact ho2 b off _ _ rfl
  have fX := hA.few
  have fY := hA2.few
  have mY := hA2.limbs
  obtain ⟨w1, Z1, hrun, hout1, hlz1, hb1, hf1, hs1⟩ : ∃ (w1 : World) (Z1 : List Nat), (∀ ty, (Builtin.clear_ #[24] ty #[.slice (some ⟨bz, zo, none⟩) (X.length + Y.length) cap]).run Tryz.prog w = .ok (.tuple #[]) w1) ∧ Out Z Z1 zo (zo + (X.length + Y.length)) ∧ Limbs Z1 ∧ Blk w1 bz Z1 ∧ Fr bz w w1 ∧ sv Z1 zo (X.length + Y.length) = 0 := by
    rcases Nat.eq_zero_or_pos (X.length + Y.length) with h0 | h0
    · refine ⟨w, Z, fun ty => ?_, Out.refl _ _ _, hLZ, hB, Fr.refl _ _, by rw [h0]; exact sv_zero _ _⟩
      rw [h0]
      simp [Builtin.clear_, run_underlying Tryz.underlying24]
    · have hlr : (List.replicate (X.length + Y.length) 0).length = X.length + Y.length := by simp
      have e1 := lay_out (List.replicate (X.length + Y.length) 0) Z zo
      have e2 := lay_sv (List.replicate (X.length + Y.length) 0) Z zo (by rw [hlr]; exact hzo)
      rw [hlr] at e1 e2
      exact ⟨_, lay Z zo (List.replicate (X.length + Y.length) 0), fun ty => clear_run bz zo _ cap Z w ty hB hzo h0, e1, lay_limbs _ (limbs_replicate _) _ _ hLZ, Blk.setCells _ _ hB, (Fr.refl _ _).setCells _ _, by rw [e2, val_replicate]⟩
  have hs0 : sv Z1 zo X.length = 0 := by
    rw [sv_split _ _ _ _ (by have := hout1.len; omega)] at hs1; omega
  have HO1 := hide hout1
  have HF1 := hide hf1
  have HL1 := hide hb1
  clear hs1
  go_enter Tryz.func123, Tryz.ntmps123
  go_wp2
  go_loopw [11] (fun i wr => ∃ (k : Nat) (Z' : List Nat), k ≤ Y.length ∧ i = .int .i64 k ∧ Out Z Z' zo (zo + (X.length + Y.length)) ∧ Limbs Z' ∧ Blk wr bz Z' ∧ Fr bz w wr ∧
      sv Z' zo (k + X.length) = val X * val (Y.take k)) (fun i _ => Y.length - (intOf i).toNat)
  case atStart => exact ⟨0, Z1, Nat.zero_le _, rfl, HO1.out, hlz1, HL1.out, HF1.out, by rw [Nat.zero_add, hs0]; simp [val]⟩
  case round =>
    obtain ⟨k, Z', hk, rfl, hout, hlz, hblk, hfr0, hval⟩ := hrel
    clear hrun hout1 hlz1 hb1 hf1 hs0 HO1 HF1 HL1
    by_cases hkl : k < Y.length
    · rcases hl2.fr hao2 hfr0 hB hblk hout with h0 | ⟨b, off, rfl, hcell⟩
      · rw [h0] at hkl; simp at hkl
      · have hck := hcell k hkl
        have z2 := limb_lt mY k
        have hlen := hout.len
        have hA' : Arg wr (.slice a1 X.length c1) X := hA.fr ho hfr0 hB hblk hout
        have HM := addTimes_any bz (zo + k) (cap - k) Z' _ X (Y.getD k 0) wr hblk hlz hA' (fun b off n c e => by rcases ho b off n c e with h | h | h <;> omega) (by omega) (by omega) (by omega) z2
        have HS := hide (fun Z2 cy hl2 hO2 h2 => school_step Z' Z2 X Y zo k (Y.getD k 0) cy hl2 hkl (by omega) rfl hval hO2 h2)
        have HO := hide hout
        have HF := hide hfr0
        generalize Y.getD k 0 = m at *
        obtain ⟨t, ht1, ht2, e1, e2⟩ : ∃ t : Nat, t ≤ k + X.length ∧ k + X.length ≤ t ∧ (k : Int) + (X.length : Int) = (t : Int) ∧ t - k = X.length := ⟨k + X.length, by omega, by omega, by omega, by omega⟩
        have hb1 : (0 : Int) ≤ (k : Int) := by omega
        have hkn : k ≤ k + X.length := by omega
        have hkc : k + X.length ≤ cap := by omega
        clear hcell hblk hfr0 hout hval hA hA2 ho ho2 hl1 hl2 hB hLZ mY hao2 hA'
        go_wp2_with fail
        refine HM.mono ?_
        rintro e w2 ⟨cy, Z2, rfl, hcy, hO2, hlz2, hb2, hf2, hv2⟩
        have HS2 := hide (HS.out Z2 cy hO2.len hO2 hv2)
        have hl2 := hO2.len
        have hfr := hb2.free (zo + t)
        have hco := hb2.cell (zo + t) (by omega)
        generalize Z2.getD (zo + t) 0 = o at *
        have HB2 := hide hb2
        have HF2 := hide (HF.out.trans hf2)
        have HO2 := hide (HO.out.trans (hO2.wider (by omega) (by omega)))
        have ht3 : t < X.length + Y.length := by omega
        clear HM HS hO2 hb2 hf2 hv2 HF HO
        go_wp2
        go_roundw
        case rel =>
          refine ⟨k + 1, Z2.set (zo + t) cy, by omega, by go_num, HO2.out.set _ _ (by omega) (by omega), limbs_set hlz2 _ _ hcy, HB2.out.set _ cy, HF2.out.setCell _ _, ?_⟩
          rw [show t = k + X.length by omega]; exact HS2.out
        case measure => simp [intOf]; omega
    · have ek : k = Y.length := by omega
      subst ek
      rw [List.take_length, Nat.add_comm] at hval
      have HV := hide hval
      have HB := hide hblk
      have HF := hide hfr0
      have HO := hide hout
      clear hval hblk hfr0 hout hl1 hl2 hB hA hA2 ho ho2 hLZ
      go_wp2
      go_end0
      exact ⟨rfl, Z', HO.out, hlz, HB.out, HF.out, HV.out⟩

end Go.Proofs.YtppblbhkghjphaaGreatDoor

/- Package mul: into, where school's way is taken. -/
namespace Go.Proofs.YtppblbhkghjphaaGreatDoor
open Go.RowKit
open Lm

/-- A way to multiply. -/
def way (H T : Int) : Value := .agg #[.int .i64 H, .int .i64 T]

/-- What 'into' does. -/
def IntoDone (bz zo n : Nat) (Z : List Nat) (w : World) (p : Nat) (e : Ending) (w' : World) : Prop :=
  e = .returned (.tuple #[]) ∧ ∃ Z' : List Nat, Out Z Z' zo (zo + n) ∧ Limbs Z' ∧ Blk w' bz Z' ∧ Fr bz w w' ∧ sv Z' zo n = p

theorem IntoDone.after {bz zo n : Nat} {Z : List Nat} {w w1 : World} {p : Nat} {e : Ending} {w' : World} (h : IntoDone bz zo n Z w1 p e w') (hf : Fr bz w w1) : IntoDone bz zo n Z w p e w' := by
  obtain ⟨he, Z', h1, h2, h3, h4, h5⟩ := h
  exact ⟨he, Z', h1, h2, h3, hf.trans h4, h5⟩

theorem Blk.alloc {w : World} {b : Nat} {xs : List Nat} (h : Blk w b xs) (o : Obj) : Blk (w.alloc o) b xs := by
  unfold Blk
  rw [Below.heap_alloc w o b h.lt]; exact h

theorem Fr.alloc (bz : Nat) (w : World) (o : Obj) : Fr bz w (w.alloc o) := Fr.of_below ((Below.refl _ _).alloc (Nat.le_refl _) o)

theorem Arg.more {w : World} {v : Value} {zs : List Nat} (h : Arg w v zs) (o : Obj) : Arg (w.alloc o) v zs := h.below ((Below.refl _ _).alloc (Nat.le_refl _) _)

theorem school_swap (bz zo cap : Nat) (Z : List Nat) (va vb : Value) (X Y : List Nat) (w : World) (hB : Blk w bz Z) (hLZ : Limbs Z) (hA : Arg w va X) (hA2 : Arg w vb Y)
    (ho : Off va bz zo (zo + (X.length + Y.length))) (ho2 : Off vb bz zo (zo + (X.length + Y.length))) (hzo : zo + (X.length + Y.length) ≤ Z.length) (hc1 : X.length + Y.length ≤ cap) (hc2 : cap ≤ 9223372036854775807) :
    Calls Tryz.prog 123 #[.slice (some ⟨bz, zo, none⟩) (X.length + Y.length) cap, vb, va] w (IntoDone bz zo (X.length + Y.length) Z w (val X * val Y)) := by
  rw [Nat.add_comm X.length, Nat.mul_comm (val X)]
  rw [Nat.add_comm X.length] at ho ho2 hzo hc1
  exact school_any bz zo cap Z vb va Y X w hB hLZ hA2 hA ho2 ho hzo hc1 hc2

set_option maxHeartbeats 800000 in
theorem into_school (H T : Int) (bz zo cap : Nat) (Z : List Nat) (va vb : Value) (X Y : List Nat) (w : World) (hB : Blk w bz Z) (hLZ : Limbs Z) (hA : Arg w va X) (hA2 : Arg w vb Y)
    (ho : Off va bz zo (zo + (X.length + Y.length))) (ho2 : Off vb bz zo (zo + (X.length + Y.length))) (hzo : zo + (X.length + Y.length) ≤ Z.length) (hc1 : X.length + Y.length ≤ cap) (hc2 : cap ≤ 9223372036854775807)
    (hs : (X.length < Y.length ∧ (X.length : Int) < H ∧ (X.length : Int) < T) ∨ (Y.length ≤ X.length ∧ (Y.length : Int) < H ∧ (Y.length : Int) < T)) :
    Calls Tryz.prog 122 #[way H T, .slice (some ⟨bz, zo, none⟩) (X.length + Y.length) cap, va, vb] w (IntoDone bz zo (X.length + Y.length) Z w (val X * val Y)) := by
  unfold way
  obtain ⟨a1, c1, rfl, hcc1, hcm1, _⟩ := hA.form
  obtain ⟨a2, c2, rfl, hcc2, hcm2, _⟩ := hA2.form
  have fX := hA.few
  have fY := hA2.few
  rcases hs with ⟨h1, h2, h3⟩ | ⟨h1, h2, h3⟩
  · have i1 : (X.length : Int) < (Y.length : Int) := by omega
    go_enter Tryz.func122, Tryz.ntmps122
    go_wp2_with fail
    refine (school_swap bz zo cap Z _ _ X Y _ (hB.alloc _) hLZ (hA.more _) (hA2.more _) ho ho2 hzo hc1 hc2).mono ?_
    rintro e w2 hd
    have HD := hide (hd.after (Fr.alloc bz w _))
    obtain ⟨he, _⟩ := hd
    subst he
    clear hA hA2 ho ho2 hB
    go_wp2
    go_end0
    exact HD.out
  · have hd0 : decide ((X.length : Int) < (Y.length : Int)) = false := decide_eq_false (by omega)
    go_enter Tryz.func122, Tryz.ntmps122
    go_wp2_with fail
    refine (school_any bz zo cap Z _ _ X Y _ (hB.alloc _) hLZ (hA.more _) (hA2.more _) ho ho2 hzo hc1 hc2).mono ?_
    rintro e w2 hd
    have HD := hide (IntoDone.after hd (Fr.alloc bz w _))
    obtain ⟨he, _⟩ := hd
    subst he
    clear hA hA2 ho ho2 hB
    go_wp2
    go_end0
    exact HD.out

/-- How many bits the product has at the least. -/
def least (x y : Nat) : Nat := if x = 0 ∨ y = 0 then 0 else blen x + blen y - 1

theorem leastLength_any (va vb : Value) (X Y : List Nat) (w : World) (hA : Arg w va X) (hA2 : Arg w vb Y) (fX : X.length ≤ 35184372088831) (fY : Y.length ≤ 35184372088831) :
    Calls Tryz.prog 117 #[va, vb] w fun e w' => e = .returned (.int .i64 ((least (val X) (val Y) : Nat) : Int)) ∧ w' = w := by
  have H1 := length_val va X w hA
  have H2 := length_val vb Y w hA2
  have b1 : blen (val X) ≤ 64 * X.length := by
    rw [blen_le_iff, Nat.mul_comm]; have := val_lt hA.limbs; rwa [W_pow] at this
  have b2 : blen (val Y) ≤ 64 * Y.length := by
    rw [blen_le_iff, Nat.mul_comm]; have := val_lt hA2.limbs; rwa [W_pow] at this
  have z1 : blen (val X) = 0 ↔ val X = 0 := by
    unfold blen; split <;> simp [*]
  have z2 : blen (val Y) = 0 ↔ val Y = 0 := by
    unfold blen; split <;> simp [*]
  have hL : least (val X) (val Y) = if blen (val X) = 0 ∨ blen (val Y) = 0 then 0 else blen (val X) + blen (val Y) - 1 := by
    unfold least; simp only [z1, z2]
  rw [hL]
  clear hA hA2 z1 z2 hL
  generalize blen (val X) = x at *
  generalize blen (val Y) = y at *
  by_cases hx : x = 0
  · subst hx
    rw [if_pos (.inl rfl)]
    go_enter Tryz.func117, Tryz.ntmps117
    go_wp2_with fail
    refine H1.mono ?_
    rintro e w2 ⟨rfl, rfl⟩
    go_wp2_with fail
    refine H2.mono ?_
    rintro e w3 ⟨rfl, rfl⟩
    clear H1 H2
    go_wp2
    go_ret
    exact ⟨rfl, rfl⟩
  · have d1 : ((x : Int) == 0) = false := by rw [beq_eq_false_iff_ne]; omega
    by_cases hy : y = 0
    · subst hy
      rw [if_pos (.inr rfl)]
      go_enter Tryz.func117, Tryz.ntmps117
      go_wp2_with fail
      refine H1.mono ?_
      rintro e w2 ⟨rfl, rfl⟩
      go_wp2_with fail
      refine H2.mono ?_
      rintro e w3 ⟨rfl, rfl⟩
      clear H1 H2
      go_wp2
      go_ret
      exact ⟨rfl, rfl⟩
    · have d2 : ((y : Int) == 0) = false := by rw [beq_eq_false_iff_ne]; omega
      rw [if_neg (by omega)]
      have e1 : (x : Int) + (y : Int) - 1 = ((x + y - 1 : Nat) : Int) := by omega
      generalize x + y - 1 = t at *
      go_enter Tryz.func117, Tryz.ntmps117
      go_wp2_with fail
      refine H1.mono ?_
      rintro e w2 ⟨rfl, rfl⟩
      go_wp2_with fail
      refine H2.mono ?_
      rintro e w3 ⟨rfl, rfl⟩
      clear H1 H2
      go_wp2
      go_ret
      exact ⟨rfl, rfl⟩

end Go.Proofs.YtppblbhkghjphaaGreatDoor

/- Package nat: Tail, as far as which limb it tells; the table of math/bits. -/
namespace Go.Proofs.YtppblbhkghjphaaGreatDoor
open Go.RowKit
open Lm
attribute [local go_sem ↓] Go.wp_at_zero Go.wp_at_succ

/-- The table of math/bits. -/
def tab64 : List Nat := [0, 1, 56, 2, 57, 49, 28, 3, 61, 58, 42, 50, 38, 29, 17, 4, 62, 47, 59, 36, 45, 43, 51, 22, 53, 39, 33, 30, 24, 18, 12, 5, 63, 55, 48, 27, 60, 41, 37, 16, 46, 35, 44, 21, 52, 32, 23, 11, 54, 26, 40, 15, 34, 20, 31, 10, 25, 14, 19, 9, 13, 8, 7, 6]

theorem tab64_lt (i : Nat) : tab64.getD i 0 < 64 := by
  by_cases h : i < 64
  · have : ∀ j : Fin 64, tab64.getD j.1 0 < 64 := by decide
    exact this ⟨i, h⟩
  · have : tab64.length ≤ i := by show 64 ≤ i; omega
    simp [List.getD, this]

/-- The table's variable holds it. -/
def Tab (w : World) : Prop := 0 < w.heap.size ∧ ∀ i, i < 64 → w.cell? ⟨0, i, none⟩ = some (.int .u8 ((tab64.getD i 0 : Nat) : Int))

theorem Tab.below {w w' : World} (h : Tab w) (hb : Below w.heap.size w w') : Tab w' :=
  ⟨Nat.lt_of_lt_of_le h.1 hb.size, fun i hi => by rw [hb.cell (p := ⟨0, i, none⟩) h.1]; exact h.2 i hi⟩

set_option maxRecDepth 20000 in
theorem tz_weak (x : Nat) (w : World) (h0 : x ≠ 0) (hT : Tab w) :
    Calls Tryz.prog 49 #[.int .u64 x] w fun e w' => (∃ t : Nat, t < 64 ∧ e = .returned (.int .i64 (t : Int))) ∧ w' = w := by
  have hd : ((x : Int) == 0) = false := by rw [beq_eq_false_iff_ne]; omega
  obtain ⟨j, hj, ej⟩ : ∃ j : Nat, j < 64 ∧ IntKind.u64.wrap (bits BinOp.and IntKind.u64 (x : Int) (IntKind.u64.wrap (-(x : Int))) * 285870213051353865) / 288230376151711744 = (j : Int) := by
    generalize bits BinOp.and IntKind.u64 (x : Int) (IntKind.u64.wrap (-(x : Int))) * 285870213051353865 = y
    refine ⟨(IntKind.u64.wrap y / 288230376151711744).toNat, ?_, ?_⟩ <;> (rw [IntKind.wrap_u64]; omega)
  have hc := hT.2 j hj
  have ht := tab64_lt j
  generalize tab64.getD j 0 = t at *
  have hj2 : (j : Int) < 64 := by omega
  have hj3 : (0 : Int) ≤ (j : Int) := by omega
  clear hT
  go_enter Tryz.func49, Tryz.ntmps49
  go_wp2
  go_ret
  exact ⟨⟨t, ht, rfl⟩, rfl⟩

/-- How many limbs at the bottom are nought (0, if all are). -/
def low0 : List Nat → Nat
  | [] => 0
  | z :: r => if z = 0 then (if val r = 0 then 0 else low0 r + 1) else 0

/-- The first limb that isn't nought. -/
theorem low0_at (X : List Nat) (k : Nat) (h : k < X.length) (h1 : val (X.take k) = 0) (h2 : X.getD k 0 ≠ 0) : low0 X = k := by
  induction X generalizing k with
  | nil => simp at h
  | cons z r ih =>
    cases k with
    | zero =>
      have : z ≠ 0 := by simpa using h2
      simp [low0, this]
    | succ k =>
      rw [List.take_succ_cons, val] at h1
      have hz : z = 0 := by omega
      have hr : val (r.take k) = 0 := by omega
      rw [List.getD_cons_succ] at h2
      have hk : k < r.length := by simpa using h
      have hv : val r ≠ 0 := by
        intro e
        have h3 := val_take_succ r k hk
        have h4 : val r = val (r.take (k + 1)) + 18446744073709551616 ^ (k + 1) * val (r.drop (k + 1)) := by
          conv => lhs; rw [← List.take_append_drop (k + 1) r, val_append]
          rw [List.length_take, Nat.min_eq_left hk]
        rw [h4, h3] at e
        have h5 : 18446744073709551616 ^ k * r.getD k 0 = 0 := by omega
        rcases Nat.mul_eq_zero.1 h5 with h6 | h6
        · exact absurd h6 (Nat.pos_iff_ne_zero.1 (Nat.pow_pos (by omega)))
        · exact h2 h6
      rw [low0, if_pos hz, if_neg hv, ih k hk hr h2]

theorem low0_zero (X : List Nat) (h : val X = 0) : low0 X = 0 := by
  cases X with
  | nil => rfl
  | cons z r =>
    rw [val] at h
    rw [low0, if_pos (by omega), if_pos (by omega)]

set_option maxHeartbeats 400000 in
theorem tail_weak (v : Value) (X : List Nat) (w : World) (hA : Arg w v X) (hT : Tab w) :
    Calls Tryz.prog 31 #[v] w fun e w' => (∃ t : Nat, t < 64 ∧ e = .returned (.int .i64 ((low0 X * 64 + t : Nat) : Int))) ∧ w' = w := by
  obtain ⟨a1, c1, rfl, hcc1, hcm1, hl1⟩ := hA.form
  have M1 := hA.limbs
  have hX := hA.few
  clear hA
  have HT := hide hT
  clear hT
  go_enter Tryz.func31, Tryz.ntmps31
  go_wp2
  go_loopw [7] (fun i wr => ∃ k : Nat, k ≤ X.length ∧ i = .int .i64 k ∧ wr = w ∧ val (X.take k) = 0) (fun i _ => X.length - (intOf i).toNat)
  case atStart => exact ⟨0, Nat.zero_le _, rfl, rfl, by simp [val]⟩
  case round =>
    obtain ⟨k, hk, rfl, rfl, hval⟩ := hrel
    have HV := hide hval
    clear hval
    by_cases hkl : k < X.length
    · rcases hl1 with h0 | ⟨b, off, rfl, hcell⟩
      · rw [h0] at hkl; simp at hkl
      · have hck := hcell k hkl
        have z1 := limb_lt M1 k
        by_cases hz : X.getD k 0 = 0
        · rw [hz] at hck
          have HV2 : Hid (val (X.take (k + 1)) = 0) := hide (by rw [val_take_succ X k hkl, HV.out, hz]; simp)
          clear hcell hz
          go_wp2
          go_roundw
          case rel => exact ⟨k + 1, by omega, by go_num, trivial, HV2.out⟩
          case measure => simp [intOf]; omega
        · have HK := hide (low0_at X k hkl HV.out hz)
          have H := tz_weak (X.getD k 0) wr hz HT.out
          have hne : ((X.getD k 0 : Int) == 0) = false := by rw [beq_eq_false_iff_ne]; omega
          have hne2 : ((X.getD k 0 : Int) != 0) = true := by rw [bne, hne]; rfl
          generalize X.getD k 0 = x at *
          clear hcell
          go_wp2_with fail
          refine H.mono ?_
          rintro e w2 ⟨⟨t, ht, rfl⟩, hw⟩
          subst hw
          clear H
          go_wp2
          go_ret
          refine ⟨⟨t, ht, ?_⟩, rfl⟩
          rw [HK.out]
          exact congrArg (fun i => Ending.returned (Value.int IntKind.i64 i)) (by omega)
    · have ek : k = X.length := by omega
      subst ek
      rw [List.take_length] at HV
      have HK := hide (low0_zero X HV.out)
      clear hl1
      go_wp2
      go_ret
      exact ⟨⟨0, by omega, by rw [HK.out]; rfl⟩, rfl⟩

end Go.Proofs.YtppblbhkghjphaaGreatDoor

/- Package mul: whole, of two numbers above 0. -/
namespace Go.Proofs.YtppblbhkghjphaaGreatDoor
open Go.RowKit
open Lm

/-- A list of limbs that lies in another block. -/
def Aside (v : Value) (bz : Nat) : Prop := ∀ b off n c, v = .slice (some ⟨b, off, none⟩) n c → b ≠ bz

theorem Aside.off {v : Value} {bz : Nat} (h : Aside v bz) (lo hi : Nat) : Off v bz lo hi := fun b off n c e => .inl (h b off n c e)

/-- 'into' does what it should of these two lists, wherever they lie. -/
def IntoOk (H T : Int) (X Y : List Nat) : Prop :=
  ∀ (bz zo cap : Nat) (Z : List Nat) (va vb : Value) (w : World), Blk w bz Z → Limbs Z → Arg w va X → Arg w vb Y → Aside va bz → Aside vb bz →
    zo + (X.length + Y.length) ≤ Z.length → X.length + Y.length ≤ cap → cap ≤ 9223372036854775807 →
    Calls Tryz.prog 122 #[way H T, .slice (some ⟨bz, zo, none⟩) (X.length + Y.length) cap, va, vb] w (IntoDone bz zo (X.length + Y.length) Z w (val X * val Y))

theorem into_ok_school (H T : Int) (X Y : List Nat) (hs : (X.length < Y.length ∧ (X.length : Int) < H ∧ (X.length : Int) < T) ∨ (Y.length ≤ X.length ∧ (Y.length : Int) < H ∧ (Y.length : Int) < T)) : IntoOk H T X Y :=
  fun bz zo cap Z va vb w h1 h2 h3 h4 h5 h6 h7 h8 h9 => into_school H T bz zo cap Z va vb X Y w h1 h2 h3 h4 (h5.off _ _) (h6.off _ _) h7 h8 h9 hs

theorem Arg.drop {w : World} {b off n cap : Nat} {X : List Nat} (h : Arg w (.slice (some ⟨b, off, none⟩) n cap) X) (i : Nat) (hi : i ≤ n) : Arg w (.slice (some ⟨b, off + i, none⟩) (n - i) (cap - i)) (X.drop i) := by
  obtain ⟨ao, c, h1, h2, h3, h4⟩ := h.form
  cases h1
  have hl : (X.drop i).length = X.length - i := by simp
  refine ⟨⟨_, _, by rw [hl], by rw [hl]; omega, by omega, ?_⟩, fun z hz => h.limbs z (List.mem_of_mem_drop hz), by rw [hl]; have := h.few; omega, fun n c e => by cases e⟩
  rcases h4 with h4 | ⟨b', off', he, hc⟩
  · subst h4; exact .inl (by simp)
  · cases he
    refine .inr ⟨b, off + i, rfl, fun k hk => ?_⟩
    rw [hl] at hk
    rw [Nat.add_assoc, hc (i + k) (by omega)]
    simp [List.getD]

theorem low0_le (X : List Nat) : low0 X ≤ X.length := by
  induction X with
  | nil => simp [low0]
  | cons z r ih =>
    rw [low0]
    split
    · split
      · simp
      · simp; omega
    · simp

theorem low0_val (X : List Nat) : val X = 18446744073709551616 ^ low0 X * val (X.drop (low0 X)) := by
  induction X with
  | nil => simp [low0, val]
  | cons z r ih =>
    rw [low0]
    by_cases hz : z = 0
    · subst hz
      rw [if_pos rfl]
      by_cases hr : val r = 0
      · rw [if_pos hr]; simp
      · rw [if_neg hr, val, List.drop_succ_cons]
        conv => lhs; rw [ih]
        rw [Nat.pow_succ, Nat.zero_add]
        grind
    · rw [if_neg hz]; simp

theorem low0_lt (X : List Nat) (h : val X ≠ 0) : low0 X < X.length := by
  refine Nat.lt_of_not_le fun hle => h ?_
  rw [low0_val, List.drop_of_length_le hle]; simp [val]

theorem whole_val (Z : List Nat) (X Y : List Nat) (i j n : Nat) (hi : i ≤ X.length) (hj : j ≤ Y.length) (hn : n = X.length + Y.length) (h1 : val X = 18446744073709551616 ^ i * val (X.drop i)) (h2 : val Y = 18446744073709551616 ^ j * val (Y.drop j))
    (ho : Out (List.replicate n 0) Z (i + j) (i + j + (X.length - i + (Y.length - j)))) (hs : sv Z (i + j) (X.length - i + (Y.length - j)) = val (X.drop i) * val (Y.drop j)) : val Z = val X * val Y := by
  have hl : Z.length = n := by rw [ho.len]; simp
  have e0 : sv Z 0 (i + j) = 0 := by
    rw [ho.sv 0 (i + j) (by omega)]
    unfold sv seg
    rw [List.drop_replicate, List.take_replicate, val_replicate]
  have e1 : sv Z 0 (i + j + (X.length - i + (Y.length - j))) = val Z := by
    rw [show i + j + (X.length - i + (Y.length - j)) = Z.length by omega, sv_all]
  rw [sv_split _ _ _ _ (by omega), e0, Nat.zero_add, Nat.zero_add, hs] at e1
  rw [← e1, h1, h2, Nat.pow_add]
  have : ∀ a b c d : Nat, a * b * (c * d) = a * c * (b * d) := fun a b c d => by grind
  rw [this]

end Go.Proofs.YtppblbhkghjphaaGreatDoor

/- Package mul: whole, of two numbers above 0. -/
namespace Go.Proofs.YtppblbhkghjphaaGreatDoor
open Go.RowKit
open Lm

/-- What 'whole' answers. -/
def WholeDone (w : World) (p n : Nat) (e : Ending) (w' : World) : Prop :=
  (∃ v rs, e = .returned v ∧ Ans w' w.heap.size v rs ∧ val rs = p ∧ tr rs = rs ∧ rs.length ≤ n) ∧ Below w.heap.size w w'

set_option maxRecDepth 20000 in
set_option maxHeartbeats 1000000 in
theorem whole_pos (H T : Int) (va vb : Value) (X Y : List Nat) (w : World) (hA : Arg w va X) (hA2 : Arg w vb Y) (hT : Tab w) (hX : val X ≠ 0) (hY : val Y ≠ 0) (hf : X.length + Y.length ≤ 35184372088831)
    (hI : IntoOk H T ((tr X).drop (low0 (tr X))) ((tr Y).drop (low0 (tr Y)))) :
    Calls Tryz.prog 119 #[way H T, va, vb] w (WholeDone w (val X * val Y) (X.length + Y.length)) := by
  unfold way
  obtain ⟨a1, c1, rfl, hcc1, hcm1, hl1⟩ := hA.form
  obtain ⟨a2, c2, rfl, hcc2, hcm2, hl2⟩ := hA2.form
  have lX := tr_length_le X
  have lY := tr_length_le Y
  have hX0 : tr X ≠ [] := fun e => hX (by rw [← val_tr, e]; rfl)
  have hY0 : tr Y ≠ [] := fun e => hY (by rw [← val_tr, e]; rfl)
  obtain ⟨i0, hi, hz0, hz1, hz2⟩ := info_parts Tryz.infoU
  obtain ⟨w1, hw1⟩ : ∃ w1, w1 = w.alloc (.cells #[.int .i64 H, .int .i64 T] 128) := ⟨_, rfl⟩
  have hbel1 : Below w.heap.size w w1 := by rw [hw1]; exact (Below.refl _ _).alloc (Nat.le_refl _) _
  have hs1 : w1.heap.size = w.heap.size + 1 := by rw [hw1]; simp
  have hb1 : w1.heap[w.heap.size]? = some (.cells #[.int .i64 H, .int .i64 T] 128) := by rw [hw1]; exact heap_alloc_new ..
  have hc0 : w1.cell? ⟨w.heap.size, 0, none⟩ = some (.int .i64 H) := by simp [World.cell?, hb1]
  have hc1 : w1.cell? ⟨w.heap.size, 1, none⟩ = some (.int .i64 T) := by simp [World.cell?, hb1]
  have B1 := hide hbel1
  have HW1 := hide hw1
  have A1 := (hA.below hbel1).trim
  have A2 := (hA2.below hbel1).trim
  have hT1 := hT.below hbel1
  have H1 := mtrim_any a1 c1 X w1 hcc1 hcm1 (hl1.below hbel1)
  have H2 := mtrim_any a2 c2 Y w1 hcc2 hcm2 (hl2.below hbel1)
  rw [← val_tr X, ← val_tr Y]
  have L1 := (hl1.below hbel1).tr
  have L2 := (hl2.below hbel1).tr
  have HPX : Hid (val (tr X) ≠ 0) := hide (by rw [val_tr]; exact hX)
  have HQY : Hid (val (tr Y) ≠ 0) := hide (by rw [val_tr]; exact hY)
  clear hA hA2 hT hl1 hl2 hX hY hw1 hbel1
  generalize tr X = P at *
  generalize tr Y = Q at *
  have hP : 0 < P.length := List.length_pos_iff.2 hX0
  have hQ : 0 < Q.length := List.length_pos_iff.2 hY0
  rcases L1 with h' | ⟨b, off, rfl, hcell1⟩
  · exact absurd h' hX0
  rcases L2 with h' | ⟨b2, off2, rfl, hcell2⟩
  · exact absurd h' hY0
  have hbw := Lies.block (zs := P) (.inr ⟨b, off, rfl, hcell1⟩) hP
  have hbw2 := Lies.block (zs := Q) (.inr ⟨b2, off2, rfl, hcell2⟩) hQ
  clear hcell1 hcell2 hX0 hY0
  obtain ⟨N, hN1, hN2, eN⟩ : ∃ N : Nat, N ≤ P.length + Q.length ∧ P.length + Q.length ≤ N ∧ (P.length : Int) + (Q.length : Int) = (N : Int) := ⟨P.length + Q.length, by omega, by omega, by omega⟩
  go_enter Tryz.func119, Tryz.ntmps119
  go_wp2_with fail
  rw [← HW1.out]
  refine H1.mono ?_
  rintro e w2 ⟨rfl, hw⟩; subst hw
  go_wp2_with fail
  refine H2.mono ?_
  rintro e w3 ⟨rfl, hw⟩; subst hw
  clear H1 H2
  go_wp2_with (at_make; refine wpList_make_full _ rfl _ _ 24 rfl w3.heap.size 32 i0 (.int .u64 0) 1 Tryz.underlying24 hi hz0 hz1 .i64 .i64 _ _ N rfl rfl (by omega) (by omega) (by rw [hz2]; omega) (by unfold maxLen; omega) (Nat.le_refl _) ?_; intro w4 hown hgrow)
  have hb4 := Blk.made hown
  rw [hs1] at hb4
  have hbel4 : Below w3.heap.size w3 w4 := (Below.refl _ _).grown hgrow (Nat.le_refl _) (fun k hk => by cases hk)
  have hs4 : w3.heap.size < w4.heap.size := by rw [hs1]; exact hb4.lt
  clear hown hgrow hi hz0 hz1 hz2
  have B4 : Hid (Below w.heap.size w w4) := B1.out.trans (hbel4.mono (by omega))
  replace A1 := A1.below hbel4
  replace A2 := A2.below hbel4
  replace hT1 := hT1.below hbel4
  have hc04 : w4.cell? ⟨w.heap.size, 0, none⟩ = some (.int .i64 H) := by rw [hbel4.cell (p := ⟨w.heap.size, 0, none⟩) (by show w.heap.size < _; omega)]; exact hc0
  have hc14 : w4.cell? ⟨w.heap.size, 1, none⟩ = some (.int .i64 T) := by rw [hbel4.cell (p := ⟨w.heap.size, 1, none⟩) (by show w.heap.size < _; omega)]; exact hc1
  clear hc0 hc1 hb1 B1 HW1 hbel4
  refine (tail_weak _ _ _ A1 hT1).mono ?_
  rintro e w5 ⟨⟨t, ht, rfl⟩, hw⟩; subst hw
  have li := low0_le P
  have li' := low0_lt P HPX.out
  have vi := low0_val P
  generalize low0 P = i at *
  obtain ⟨ti, eti⟩ : ∃ ti : Nat, ti = i * 64 + t := ⟨_, rfl⟩
  have eI : (ti : Int) / 64 = (i : Int) := by omega
  have hti : ti ≤ 9223372036854775807 := by omega
  rw [← eti]
  clear eti ht
  go_wp2_with fail
  refine (tail_weak _ _ _ A2 hT1).mono ?_
  rintro e w6 ⟨⟨u, hu, rfl⟩, hw⟩; subst hw
  have lj := low0_le Q
  have lj' := low0_lt Q HQY.out
  have vj := low0_val Q
  generalize low0 Q = j at *
  obtain ⟨tj, etj⟩ : ∃ tj : Nat, tj = j * 64 + u := ⟨_, rfl⟩
  have eJ : (tj : Int) / 64 = (j : Int) := by omega
  have htj : tj ≤ 9223372036854775807 := by omega
  rw [← etj]
  clear etj hu hT1
  obtain ⟨g, hg⟩ : ∃ g, g = w.heap.size + 1 := ⟨_, rfl⟩
  have HI := hI g (i + j) (N - (i + j)) (List.replicate N 0) _ _ w6.drew (by rw [hg]; exact hb4) (limbs_replicate _) ((A1.drop i li).below ((Below.refl _ _).drew)) ((A2.drop j lj).below ((Below.refl _ _).drew))
    (fun b' off' n c e => by cases e; omega) (fun b' off' n c e => by cases e; omega) (by simp; omega) (by simp; omega) (by omega)
  rw [List.length_drop, List.length_drop] at HI
  have HVAL := hide (fun Z ho hs => whole_val Z P Q i j N li lj (by omega) vi vj ho hs)
  clear vi vj hI A1 A2
  obtain ⟨M, hM1, hM2⟩ : ∃ M, P.length - i + (Q.length - j) = M ∧ N - (i + j) = M := ⟨_, rfl, by omega⟩
  rw [hM1, hM2] at HI
  rw [hM1] at HVAL
  have eS : (i : Int) + (j : Int) = ((i + j : Nat) : Int) := by omega
  have hS : i + j + M ≤ N := by omega
  have hS2 : N ≤ i + j + M := by omega
  generalize i + j = s at *
  have wS : IntKind.i64.wrap (s : Int) = (s : Int) := by rw [IntKind.wrap_i64]; omega
  have k1 : (0 : Int) ≤ (s : Int) := by omega
  have k2 : (s : Int) ≤ (N : Int) := by omega
  have k3 : (0 : Int) ≤ (i : Int) := by omega
  have k4 : (i : Int) ≤ (P.length : Int) := by omega
  have k5 : (0 : Int) ≤ (j : Int) := by omega
  have k6 : (j : Int) ≤ (Q.length : Int) := by omega
  have k7 : (i : Int) ≤ (c1 : Int) := by omega
  have k8 : (j : Int) ≤ (c2 : Int) := by omega
  have k9 : ¬ N = s := by omega
  have k10 : ¬ c1 = i := by omega
  have k11 : ¬ c2 = j := by omega
  clear hM1
  rw [← hg]
  have HG := hide hg
  clear hg
  unfold way at HI
  have HK := hide (fun (w7 : World) (hF : Fr g w6.drew w7) => (⟨by rw [World.cell?_of_block (w := w6.drew) (hF.block w.heap.size (by show _ < w6.heap.size; have := HG.out; omega) (by have := HG.out; omega))]; exact hc04, by rw [World.cell?_of_block (w := w6.drew) (hF.block w.heap.size (by show _ < w6.heap.size; have := HG.out; omega) (by have := HG.out; omega))]; exact hc14⟩ : w7.cell? ⟨w.heap.size, 0, none⟩ = some (.int .i64 H) ∧ w7.cell? ⟨w.heap.size, 1, none⟩ = some (.int .i64 T)))
  go_wp2
  go_region_held3 (fun w' => w'.cell? ⟨w.heap.size, 0, none⟩ = some (.int .i64 H) ∧ w'.cell? ⟨w.heap.size, 1, none⟩ = some (.int .i64 T)) (go_keep) (first | (go_at_call 122; refine HI.mono ?_; rintro e w7 ⟨rfl, Z', hO, hlz, hB7, hF7, hv7⟩; obtain ⟨hk0, hk1⟩ := HK.out w7 hF7; have HD := hide (And.intro hO (And.intro hlz (And.intro hB7 (And.intro hF7 hv7)))); clear hO hlz hB7 hF7 hv7))
  obtain ⟨hO, hlz, hB7, hF7, hv7⟩ := HD.out
  have hlZ : Z'.length = N := by rw [hO.len]; simp
  have hvz := HVAL.out Z' (by exact hO) hv7
  have hans := (Ans.of_blk (base := w.heap.size) (zs := Z') (by have := HG.out; omega) hB7 List.take_length.symm (Nat.le_refl _) (by omega) hlz).trim
  have HT2 := mtrim_any (some ⟨g, 0, none⟩) N Z' w7 (by omega) (by omega) (.inr ⟨g, 0, rfl, fun k hk => by rw [Nat.zero_add]; exact hB7.cell k hk⟩)
  rw [hlZ] at HT2 hans
  have hlt := tr_length_le Z'
  have HR : Hid (WholeDone w (val P * val Q) (X.length + Y.length) (.returned (.slice (some ⟨g, 0, none⟩) (tr Z').length N)) w7) :=
    hide ⟨⟨_, tr Z', rfl, hans, by rw [val_tr, hvz], tr_tr _, by omega⟩, B4.out.trans ((Fr.trans (Fr.refl g w6).drew hF7).below (by have := HG.out; omega) B4.out.size)⟩
  clear hO hlz hB7 hF7 hv7 HD HVAL HI HK hans hvz hb4 B4 HG
  generalize (tr Z').length = n' at *
  go_wp2_with fail
  refine HT2.mono ?_
  rintro e w8 ⟨rfl, hw⟩; subst hw
  clear HT2
  go_wp2
  go_ret
  exact HR.out

end Go.Proofs.YtppblbhkghjphaaGreatDoor

/- Package mul: answer, product, Mul, of numbers above 0. -/
namespace Go.Proofs.YtppblbhkghjphaaGreatDoor
open Go.RowKit
open Lm

theorem manswer_own (v : Value) (base : Nat) (xs : List Nat) (w : World) (h : Ans w base v xs) (hf : xs.length ≤ 1125899906842624) :
    Calls Tryz.prog 118 #[v] w fun e w' => w' = w ∧ Res w base e (val xs) := by
  have ha := h.arg hf
  obtain ⟨ao, cap, rfl, hcap, hmax, hlies⟩ := ha.form
  have hle := tr_length_le xs
  have H1 := mtrim_any _ cap xs w hcap hmax hlies
  have H2 := length_val _ _ _ ha
  have HA : Hid (Ans w base (.slice ao (tr xs).length cap) (tr xs)) := h.trim
  have HT : Hid (tr (tr xs) = tr xs ∧ val (tr xs) = val xs) := ⟨tr_tr xs, val_tr xs⟩
  unfold Res
  generalize tr xs = T at *
  generalize val xs = V at *
  generalize blen V = y at *
  clear hlies h ha
  by_cases hy : y ≤ 67108864
  · go_enter Tryz.func118, Tryz.ntmps118
    go_wp2_with fail
    refine H2.mono ?_
    rintro e w' ⟨rfl, rfl⟩
    go_wp2_with fail
    refine H1.mono ?_
    rintro e w' ⟨rfl, rfl⟩
    go_wp2
    go_ret2
    exact ⟨rfl, _, _, T, rfl, HA.out, .inl ⟨rfl, HT.out.2, HT.out.1, hy⟩⟩
  · go_enter Tryz.func118, Tryz.ntmps118
    go_wp2_with fail
    refine H2.mono ?_
    rintro e w' ⟨rfl, rfl⟩
    go_wp2
    go_ret2
    exact ⟨rfl, _, _, [], rfl, Ans.nil _ _, .inr ⟨rfl, rfl, by omega⟩⟩

theorem blen_pow_le (x : Nat) (h : x ≠ 0) : 2 ^ (blen x - 1) ≤ x := by
  refine Nat.le_of_not_lt fun hlt => ?_
  have h1 := (blen_le_iff x (blen x - 1)).2 hlt
  have h2 : blen x ≠ 0 := by unfold blen; rw [if_neg h]; omega
  omega

theorem least_le (x y : Nat) : least x y ≤ blen (x * y) := by
  unfold least
  split
  · omega
  · rename_i h
    have hx : x ≠ 0 := fun e => h (.inl e)
    have hy : y ≠ 0 := fun e => h (.inr e)
    have bx : blen x ≠ 0 := by unfold blen; rw [if_neg hx]; omega
    have by' : blen y ≠ 0 := by unfold blen; rw [if_neg hy]; omega
    refine Nat.le_of_not_lt fun hlt => ?_
    have h1 : blen (x * y) ≤ (blen x - 1) + (blen y - 1) := by omega
    rw [blen_le_iff, Nat.pow_add] at h1
    have := Nat.mul_le_mul (blen_pow_le x hx) (blen_pow_le y hy)
    omega

set_option maxHeartbeats 400000 in
theorem product_pos (H T : Int) (va vb : Value) (X Y : List Nat) (w : World) (hA : Arg w va X) (hA2 : Arg w vb Y) (hT : Tab w) (hX : val X ≠ 0) (hY : val Y ≠ 0) (hf : X.length + Y.length ≤ 35184372088831)
    (hI : IntoOk H T ((tr X).drop (low0 (tr X))) ((tr Y).drop (low0 (tr Y)))) :
    Calls Tryz.prog 111 #[way H T, va, vb] w fun e w' => Below w.heap.size w w' ∧ Res w' w.heap.size e (val X * val Y) := by
  obtain ⟨w1, hw1⟩ : ∃ w1, w1 = w.alloc (.cells #[.int .i64 H, .int .i64 T] 128) := ⟨_, rfl⟩
  have hbel1 : Below w.heap.size w w1 := by rw [hw1]; exact (Below.refl _ _).alloc (Nat.le_refl _) _
  have hb1 : w1.heap[w.heap.size]? = some (.cells #[.int .i64 H, .int .i64 T] 128) := by rw [hw1]; exact heap_alloc_new ..
  have hc0 : w1.cell? ⟨w.heap.size, 0, none⟩ = some (.int .i64 H) := by simp [World.cell?, hb1]
  have hc1 : w1.cell? ⟨w.heap.size, 1, none⟩ = some (.int .i64 T) := by simp [World.cell?, hb1]
  have H1 := leastLength_any va vb X Y w1 (hA.below hbel1) (hA2.below hbel1) (by omega) (by omega)
  have H2 := whole_pos H T va vb X Y w1 (hA.below hbel1) (hA2.below hbel1) (hT.below hbel1) hX hY hf hI
  have hle := least_le (val X) (val Y)
  have B1 := hide hbel1
  have HW1 := hide hw1
  clear hA hA2 hT hX hY hI hw1 hbel1 hb1
  unfold way at *
  generalize val X * val Y = p at *
  by_cases hbig : least (val X) (val Y) ≤ 67108864
  · generalize least (val X) (val Y) = l at *
    go_enter Tryz.func111, Tryz.ntmps111
    go_wp2_with fail
    rw [← HW1.out]
    refine H1.mono ?_
    rintro e w2 ⟨rfl, hw⟩; subst hw
    clear H1 HW1
    go_wp2_with fail
    refine H2.mono ?_
    rintro e w3 ⟨⟨v, rs, rfl, hans, hv, ht, hl⟩, hb⟩
    have HR := manswer_own v w.heap.size rs w3 (hans.base B1.out.size) (by omega)
    rw [hv] at HR
    have B3 : Hid (Below w.heap.size w w3) := B1.out.trans (hb.mono B1.out.size)
    clear H2 hans hv ht hb hc0 hc1
    go_wp2_with fail
    refine HR.mono ?_
    rintro e w4 ⟨hw, hres⟩; subst hw
    unfold Res at hres
    obtain ⟨v, c, rs, rfl, hres⟩ := hres
    have HX := hide hres
    clear hres HR
    go_wp2
    go_ret2
    exact ⟨B3.out, v, c, rs, rfl, HX.out⟩
  · have HP : Hid (67108864 < blen p) := hide (by omega)
    clear hle
    generalize least (val X) (val Y) = l at *
    go_enter Tryz.func111, Tryz.ntmps111
    go_wp2_with fail
    rw [← HW1.out]
    refine H1.mono ?_
    rintro e w2 ⟨rfl, hw⟩; subst hw
    clear H1 HW1 H2
    go_wp2
    go_ret2
    exact ⟨B1.out, _, _, [], rfl, Ans.nil _ _, .inr ⟨rfl, rfl, HP.out⟩⟩

theorem quick_any (w : World) : Calls Tryz.prog 110 #[] w fun e w' => e = .returned (way 40 200) ∧ Below w.heap.size w w' := by
  go_enter Tryz.func110, Tryz.ntmps110
  go_wp2
  go_returns
  exact ⟨rfl, (Below.refl _ _).alloc (Nat.le_refl _) _⟩

theorem mul_pos (va vb : Value) (X Y : List Nat) (w : World) (hA : Arg w va X) (hA2 : Arg w vb Y) (hT : Tab w) (hX : val X ≠ 0) (hY : val Y ≠ 0) (hf : X.length + Y.length ≤ 35184372088831)
    (hI : IntoOk 40 200 ((tr X).drop (low0 (tr X))) ((tr Y).drop (low0 (tr Y)))) :
    Calls Tryz.prog 101 #[va, vb] w fun e w' => Below w.heap.size w w' ∧ Res w' w.heap.size e (val X * val Y) := by
  have HQ := quick_any w
  go_enter Tryz.func101, Tryz.ntmps101
  go_wp2_with fail
  refine HQ.mono ?_
  rintro e w1 ⟨rfl, hb⟩
  have B1 := hide hb
  have HP := product_pos 40 200 va vb X Y w1 (hA.below hb) (hA2.below hb) (hT.below hb) hX hY hf hI
  generalize way 40 200 = W at *
  clear hb HQ hA hA2 hT hX hY hI
  go_wp2_with fail
  refine HP.mono ?_
  rintro e w2 ⟨hb, v, c, rs, rfl, hans, hres⟩
  have HR := hide (And.intro (B1.out.trans (hb.mono B1.out.size)) (And.intro (hans.base B1.out.size) hres))
  clear hb hans hres HP
  go_wp2
  go_ret2
  exact ⟨HR.out.1, v, c, rs, rfl, HR.out.2.1, HR.out.2.2⟩

end Go.Proofs.YtppblbhkghjphaaGreatDoor

/- Package mul: plus. -/
namespace Go.Proofs.YtppblbhkghjphaaGreatDoor
open Go.RowKit
open Lm
attribute [local go_sem ↓] Go.wp_at_zero Go.wp_at_succ

/-- One limb is added in place. -/
theorem seg_add_step (Z Z' : List Nat) (o k cy c2 s v V : Nat) (hz : o + k < Z'.length) (hl : Z'.length = Z.length)
    (h : sv Z' o k + cy * 18446744073709551616 ^ k = sv Z o k + V) (hs : s + c2 * 18446744073709551616 = Z.getD (o + k) 0 + v + cy) :
    sv (Z'.set (o + k) s) o (k + 1) + c2 * 18446744073709551616 ^ (k + 1) = sv Z o (k + 1) + (V + 18446744073709551616 ^ k * v) := by
  rw [sv_set_succ _ _ _ _ hz, sv_succ Z o k (by omega), show (18446744073709551616 : Nat) ^ (k + 1) = 18446744073709551616 ^ k * 18446744073709551616 from Nat.pow_succ ..]
  generalize sv Z' o k = A at *
  generalize sv Z o k = B at *
  generalize Z.getD (o + k) 0 = z at *
  generalize (18446744073709551616 : Nat) ^ k = P at *
  generalize (18446744073709551616 : Nat) = W at *
  grind

/-- The rest of the piece is as it was. -/
theorem seg_rest (Z Z' : List Nat) (o k n V : Nat) (hk : k ≤ n) (hn : o + n ≤ Z.length) (ho : Out Z Z' o (o + k)) (h : sv Z' o k = sv Z o k + V) : sv Z' o n = sv Z o n + V := by
  obtain ⟨d, rfl⟩ : ∃ d, n = k + d := ⟨n - k, by omega⟩
  rw [sv_split Z' o k d (by rw [ho.len]; omega), sv_split Z o k d (by omega), h, ho.sv (o + k) d (by omega)]
  omega

/-- A carry out of the whole piece there is not. -/
theorem seg_no_carry (Z Z' : List Nat) (o n cy V : Nat) (hZ : sv Z o n + V < 18446744073709551616 ^ n) (h : sv Z' o n + cy * 18446744073709551616 ^ n = sv Z o n + V) : cy = 0 := by
  rcases Nat.eq_zero_or_pos cy with h0 | h0
  · exact h0
  · have := Nat.mul_le_mul_right (18446744073709551616 ^ n) h0
    omega

theorem add_limb (z v cy : Nat) (hz : z < 18446744073709551616) (hv : v < 18446744073709551616) (hc : cy ≤ 1) :
    (z + v + cy) % 18446744073709551616 + (z + v + cy) / 18446744073709551616 * 18446744073709551616 = z + v + cy ∧ (z + v + cy) / 18446744073709551616 ≤ 1 ∧ (z + v + cy) % 18446744073709551616 < 18446744073709551616 := by
  omega

/-- What a call in place does. -/
def InPlace (bz zo n : Nat) (Z : List Nat) (w : World) (p : Nat) (e : Ending) (w' : World) : Prop := IntoDone bz zo n Z w p e w'

set_option maxHeartbeats 1000000 in
theorem plus_any (bz zo n cap : Nat) (Z : List Nat) (va : Value) (X : List Nat) (w : World) (hB : Blk w bz Z) (hLZ : Limbs Z) (hA : Arg w va X) (ho : Off va bz zo (zo + n))
    (hzo : zo + n ≤ Z.length) (hc1 : n ≤ cap) (hc2 : cap ≤ 9223372036854775807) (hfit : sv Z zo n + val X < 18446744073709551616 ^ n) :
    Calls Tryz.prog 130 #[.slice (some ⟨bz, zo, none⟩) n cap, va] w (IntoDone bz zo n Z w (sv Z zo n + val X)) := by
  obtain ⟨a1, c1, rfl, hcc1, hcm1, hl1⟩ := hA.form
  have hX := hA.few
  have H1 := mtrim_any a1 c1 X w hcc1 hcm1 hl1
  have M1 := limbs_tr hA.limbs
  have hle := tr_length_le X
  have hln := tr_len_lt X n (by omega)
  have hao : ∀ b off, a1 = some ⟨b, off, none⟩ → b ≠ bz ∨ off + (tr X).length ≤ zo ∨ zo + n ≤ off := fun b off e => by
    subst e
    rcases ho b off _ _ rfl with h | h | h
    · exact .inl h
    · exact .inr (.inl (by omega))
    · exact .inr (.inr h)
  have L1 := hl1.tr
  rw [← val_tr X] at hfit ⊢
  clear ho hA hl1
  generalize tr X = P at *
  have HFIT := hide hfit
  have HB0 := hide hB
  have HLZ := hide hLZ
  clear hfit
  go_enter Tryz.func130, Tryz.ntmps130
  go_wp2_with fail
  refine H1.mono ?_
  rintro e w' ⟨rfl, hw⟩; subst hw
  clear H1
  go_wp2
  go_loopw [4, 12] (fun c i wr => ∃ (k cy : Nat) (Z' : List Nat), k ≤ P.length ∧ i = .int .i64 k ∧ c = .int .u64 cy ∧ cy ≤ 1 ∧ Out Z Z' zo (zo + k) ∧ Limbs Z' ∧ Blk wr bz Z' ∧ Fr bz w' wr ∧
      sv Z' zo k + cy * 18446744073709551616 ^ k = sv Z zo k + val (P.take k)) (fun _ i _ => P.length - (intOf i).toNat)
  case atStart => exact ⟨0, 0, Z, Nat.zero_le _, rfl, rfl, by omega, Out.refl _ _ _, HLZ.out, HB0.out, Fr.refl _ _, by simp [sv_zero, val]⟩
  case round =>
    obtain ⟨k, cy, Z', hk, rfl, rfl, hcy, hout, hlz, hblk, hfr0, hval⟩ := hrel
    have HV := hide hval
    have HB := hide hblk
    have HF := hide hfr0
    have HO := hide hout
    have hl := hout.len
    clear hval
    by_cases hkl : k < P.length
    · rcases L1.fr hao hfr0 hB hblk (hout.wider (Nat.le_refl _) (by omega)) with h0 | ⟨b, off, rfl, hcell⟩
      · rw [h0] at hkl; simp at hkl
      · have hck := hcell k hkl
        have hfr := hblk.free (zo + k)
        have hco := hblk.cell (zo + k) (by omega)
        have z1 := limb_lt M1 k
        have z2 := limb_lt hlz (zo + k)
        have hsame := hout.same (zo + k) (by omega)
        have ha := add64 (Z'.getD (zo + k) 0) (P.getD k 0) cy hcy
        obtain ⟨q1, q2, q3⟩ := add_limb (Z'.getD (zo + k) 0) (P.getD k 0) cy z2 z1 hcy
        have HS := hide (seg_add_step Z Z' zo k cy _ _ (P.getD k 0) _ (by omega) hl HV.out (by rw [← hsame]; exact q1))
        rw [← val_take_next P k] at HS
        generalize Z'.getD (zo + k) 0 = z at *
        generalize P.getD k 0 = x at *
        clear hsame q1
        generalize (z + x + cy) % 18446744073709551616 = s at *
        generalize (z + x + cy) / 18446744073709551616 = c2 at *
        clear hcell hblk hfr0 hout HV M1 L1 hB hLZ
        go_wp2
        go_roundw
        case rel => exact ⟨k + 1, c2, Z'.set (zo + k) s, by omega, by go_num, rfl, q2, (HO.out.wider (Nat.le_refl _) (by omega)).set _ _ (by omega) (by omega), limbs_set hlz _ _ q3, HB.out.set _ s, HF.out.setCell _ _, HS.out⟩
        case measure => simp [intOf]; omega
    · have ek : k = P.length := by omega
      subst ek
      rw [List.take_length] at HV
      clear hblk hfr0 hout L1 hB M1 hLZ hl
      go_wp2
      go_loopw [4, 7] (fun c i wr2 => ∃ (k cy : Nat) (Z2 : List Nat), k ≤ n ∧ i = .int .i64 k ∧ c = .int .u64 cy ∧ cy ≤ 1 ∧ Out Z Z2 zo (zo + k) ∧ Limbs Z2 ∧ Blk wr2 bz Z2 ∧ Fr bz w' wr2 ∧
          sv Z2 zo k + cy * 18446744073709551616 ^ k = sv Z zo k + val P) (fun _ i _ => n - (intOf i).toNat)
      case atStart => exact ⟨P.length, cy, Z', hln, rfl, rfl, hcy, HO.out, hlz, HB.out, HF.out, HV.out⟩
      case round =>
        obtain ⟨k, cy2, Z2, hk2, rfl, rfl, hcy2, hout2, hlz2, hblk2, hfr2, hval2⟩ := hrel
        clear HV HB HF HO
        have HV := hide hval2
        have HB := hide hblk2
        have HF := hide hfr2
        have HO := hide hout2
        have hl := hout2.len
        clear hval2
        by_cases hc0 : cy2 = 0
        · subst hc0
          have HR := hide (seg_rest Z Z2 zo k n _ hk2 hzo hout2 (by have h := HV.out; rw [Nat.zero_mul, Nat.add_zero] at h; exact h))
          clear hblk2 hfr2 hout2 HV
          go_wp2
          go_end0
          exact ⟨rfl, Z2, HO.out.wider (Nat.le_refl _) (by omega), hlz2, HB.out, HF.out, HR.out⟩
        · have hpos : (0 : Int) < (cy2 : Int) := by omega
          have hkn : k < n := by
            rcases Nat.lt_or_ge k n with h | h
            · exact h
            · have ek : k = n := by omega
              subst ek
              exact absurd (seg_no_carry Z Z2 zo k cy2 (val P) HFIT.out HV.out) hc0
          have hfr := hblk2.free (zo + k)
          have hco := hblk2.cell (zo + k) (by omega)
          have z2 := limb_lt hlz2 (zo + k)
          have hsame := hout2.same (zo + k) (by omega)
          have ha := add64_0 (Z2.getD (zo + k) 0) cy2
          obtain ⟨q1, q2, q3⟩ := add_limb (Z2.getD (zo + k) 0) 0 cy2 z2 (by omega) hcy2
          have HS := hide (seg_add_step Z Z2 zo k cy2 _ _ 0 _ (by omega) hl HV.out (by rw [← hsame]; exact q1))
          rw [Nat.mul_zero, Nat.add_zero] at HS
          rw [Nat.add_zero] at HS q2 q3
          generalize Z2.getD (zo + k) 0 = z at *
          clear hsame q1
          generalize (z + cy2) % 18446744073709551616 = s at *
          generalize (z + cy2) / 18446744073709551616 = c2 at *
          clear hblk2 hfr2 hout2 HV hc0
          go_wp2
          go_roundw
          case rel => exact ⟨k + 1, c2, Z2.set (zo + k) s, by omega, by go_num, rfl, q2, (HO.out.wider (Nat.le_refl _) (by omega)).set _ _ (by omega) (by omega), limbs_set hlz2 _ _ q3, HB.out.set _ s, HF.out.setCell _ _, HS.out⟩
          case measure => simp [intOf]; omega

end Go.Proofs.YtppblbhkghjphaaGreatDoor

/- Package mul: minus. -/
namespace Go.Proofs.YtppblbhkghjphaaGreatDoor
open Go.RowKit
open Lm
attribute [local go_sem ↓] Go.wp_at_zero Go.wp_at_succ

theorem sub64' (x y b : Nat) (hb : b ≤ 1) (w : World) :
    (callFunc 65 #[.int .u64 x, .int .u64 y, .int .u64 b]).run Tryz.prog w =
      .ok (.value (.tuple #[.int .u64 (((x + 18446744073709551616 - y - b) % 18446744073709551616 : Nat) : Int), .int .u64 ((bor x y b : Nat) : Int)])) w := by
  rw [run_callFunc_extern Tryz.func65 (by kernel_rfl) (by kernel_rfl) (by kernel_rfl) (e := sub64Entry) (by kernel_rfl), run_sub64 x y b hb]
  rfl

/-- A borrow, taken from a limb. -/
theorem sub64_0' (x b : Nat) (hb : b ≤ 1) (w : World) :
    (callFunc 65 #[.int .u64 x, .int .u64 b, .int .u64 0]).run Tryz.prog w =
      .ok (.value (.tuple #[.int .u64 (((x + 18446744073709551616 - 0 - b) % 18446744073709551616 : Nat) : Int), .int .u64 ((bor x 0 b : Nat) : Int)])) w := by
  have h := sub64' x b 0 (by omega) w
  rw [show bor x b 0 = bor x 0 b by unfold bor; simp, show x + 18446744073709551616 - b - 0 = x + 18446744073709551616 - 0 - b by omega] at h
  exact h

theorem sub_limb (z v cy : Nat) (hz : z < 18446744073709551616) (hv : v < 18446744073709551616) (hc : cy ≤ 1) :
    (z + 18446744073709551616 - v - cy) % 18446744073709551616 + v + cy = z + bor z v cy * 18446744073709551616 ∧ bor z v cy ≤ 1 ∧ (z + 18446744073709551616 - v - cy) % 18446744073709551616 < 18446744073709551616 := by
  unfold bor
  split <;> omega

theorem seg_sub_step (Z Z' : List Nat) (o k cy c2 s v V : Nat) (hz : o + k < Z'.length) (hl : Z'.length = Z.length)
    (h : sv Z' o k + V = sv Z o k + cy * 18446744073709551616 ^ k) (hs : s + v + cy = Z.getD (o + k) 0 + c2 * 18446744073709551616) :
    sv (Z'.set (o + k) s) o (k + 1) + (V + 18446744073709551616 ^ k * v) = sv Z o (k + 1) + c2 * 18446744073709551616 ^ (k + 1) := by
  rw [sv_set_succ _ _ _ _ hz, sv_succ Z o k (by omega), show (18446744073709551616 : Nat) ^ (k + 1) = 18446744073709551616 ^ k * 18446744073709551616 from Nat.pow_succ ..]
  generalize sv Z' o k = A at *
  generalize sv Z o k = B at *
  generalize Z.getD (o + k) 0 = z at *
  generalize (18446744073709551616 : Nat) ^ k = P at *
  generalize (18446744073709551616 : Nat) = W at *
  grind

theorem seg_rest_sub (Z Z' : List Nat) (o k n V : Nat) (hk : k ≤ n) (hn : o + n ≤ Z.length) (ho : Out Z Z' o (o + k)) (h : sv Z' o k + V = sv Z o k) : sv Z' o n = sv Z o n - V := by
  obtain ⟨d, rfl⟩ : ∃ d, n = k + d := ⟨n - k, by omega⟩
  rw [sv_split Z' o k d (by rw [ho.len]; omega), sv_split Z o k d (by omega), ← h, ho.sv (o + k) d (by omega)]
  omega

theorem seg_no_borrow (Z Z' : List Nat) (o n cy V : Nat) (hl : Limbs Z') (hZ : V ≤ sv Z o n) (h : sv Z' o n + V = sv Z o n + cy * 18446744073709551616 ^ n) : cy = 0 := by
  rcases Nat.eq_zero_or_pos cy with h0 | h0
  · exact h0
  · have := Nat.mul_le_mul_right (18446744073709551616 ^ n) h0
    have := sv_lt hl o n
    omega

set_option maxHeartbeats 1000000 in
theorem minus_any (bz zo n cap : Nat) (Z : List Nat) (va : Value) (X : List Nat) (w : World) (hB : Blk w bz Z) (hLZ : Limbs Z) (hA : Arg w va X) (ho : Off va bz zo (zo + n))
    (hzo : zo + n ≤ Z.length) (hc1 : n ≤ cap) (hc2 : cap ≤ 9223372036854775807) (hfit : val X ≤ sv Z zo n) :
    Calls Tryz.prog 132 #[.slice (some ⟨bz, zo, none⟩) n cap, va] w (IntoDone bz zo n Z w (sv Z zo n - val X)) := by
  obtain ⟨a1, c1, rfl, hcc1, hcm1, hl1⟩ := hA.form
  have hX := hA.few
  have H1 := mtrim_any a1 c1 X w hcc1 hcm1 hl1
  have M1 := limbs_tr hA.limbs
  have hle := tr_length_le X
  have hln := tr_len_lt X n (Nat.lt_of_le_of_lt hfit (sv_lt hLZ zo n))
  have hao : ∀ b off, a1 = some ⟨b, off, none⟩ → b ≠ bz ∨ off + (tr X).length ≤ zo ∨ zo + n ≤ off := fun b off e => by
    subst e
    rcases ho b off _ _ rfl with h | h | h
    · exact .inl h
    · exact .inr (.inl (by omega))
    · exact .inr (.inr h)
  have L1 := hl1.tr
  rw [← val_tr X] at hfit ⊢
  clear ho hA hl1
  generalize tr X = P at *
  have HFIT := hide hfit
  have HB0 := hide hB
  have HLZ := hide hLZ
  clear hfit
  go_enter Tryz.func132, Tryz.ntmps132
  go_wp2_with fail
  refine H1.mono ?_
  rintro e w' ⟨rfl, hw⟩; subst hw
  clear H1
  go_wp2
  go_loopw [4, 12] (fun c i wr => ∃ (k cy : Nat) (Z' : List Nat), k ≤ P.length ∧ i = .int .i64 k ∧ c = .int .u64 cy ∧ cy ≤ 1 ∧ Out Z Z' zo (zo + k) ∧ Limbs Z' ∧ Blk wr bz Z' ∧ Fr bz w' wr ∧
      sv Z' zo k + val (P.take k) = sv Z zo k + cy * 18446744073709551616 ^ k) (fun _ i _ => P.length - (intOf i).toNat)
  case atStart => exact ⟨0, 0, Z, Nat.zero_le _, rfl, rfl, by omega, Out.refl _ _ _, HLZ.out, HB0.out, Fr.refl _ _, by simp [sv_zero, val]⟩
  case round =>
    obtain ⟨k, cy, Z', hk, rfl, rfl, hcy, hout, hlz, hblk, hfr0, hval⟩ := hrel
    have HV := hide hval
    have HB := hide hblk
    have HF := hide hfr0
    have HO := hide hout
    have hl := hout.len
    clear hval
    by_cases hkl : k < P.length
    · rcases L1.fr hao hfr0 hB hblk (hout.wider (Nat.le_refl _) (by omega)) with h0 | ⟨b, off, rfl, hcell⟩
      · rw [h0] at hkl; simp at hkl
      · have hck := hcell k hkl
        have hfr := hblk.free (zo + k)
        have hco := hblk.cell (zo + k) (by omega)
        have z1 := limb_lt M1 k
        have z2 := limb_lt hlz (zo + k)
        have hsame := hout.same (zo + k) (by omega)
        have ha := sub64' (Z'.getD (zo + k) 0) (P.getD k 0) cy hcy
        obtain ⟨q1, q2, q3⟩ := sub_limb (Z'.getD (zo + k) 0) (P.getD k 0) cy z2 z1 hcy
        have HS := hide (seg_sub_step Z Z' zo k cy _ _ (P.getD k 0) _ (by omega) hl HV.out (by rw [← hsame]; exact q1))
        rw [← val_take_next P k] at HS
        generalize Z'.getD (zo + k) 0 = z at *
        generalize P.getD k 0 = x at *
        clear hsame q1
        generalize (z + 18446744073709551616 - x - cy) % 18446744073709551616 = s at *
        generalize bor z x cy = c2 at *
        clear hcell hblk hfr0 hout HV M1 L1 hB hLZ
        go_wp2
        go_roundw
        case rel => exact ⟨k + 1, c2, Z'.set (zo + k) s, by omega, by go_num, rfl, q2, (HO.out.wider (Nat.le_refl _) (by omega)).set _ _ (by omega) (by omega), limbs_set hlz _ _ q3, HB.out.set _ s, HF.out.setCell _ _, HS.out⟩
        case measure => simp [intOf]; omega
    · have ek : k = P.length := by omega
      subst ek
      rw [List.take_length] at HV
      clear hblk hfr0 hout L1 hB M1 hLZ hl
      go_wp2
      go_loopw [4, 7] (fun c i wr2 => ∃ (k cy : Nat) (Z2 : List Nat), k ≤ n ∧ i = .int .i64 k ∧ c = .int .u64 cy ∧ cy ≤ 1 ∧ Out Z Z2 zo (zo + k) ∧ Limbs Z2 ∧ Blk wr2 bz Z2 ∧ Fr bz w' wr2 ∧
          sv Z2 zo k + val P = sv Z zo k + cy * 18446744073709551616 ^ k) (fun _ i _ => n - (intOf i).toNat)
      case atStart => exact ⟨P.length, cy, Z', hln, rfl, rfl, hcy, HO.out, hlz, HB.out, HF.out, HV.out⟩
      case round =>
        obtain ⟨k, cy2, Z2, hk2, rfl, rfl, hcy2, hout2, hlz2, hblk2, hfr2, hval2⟩ := hrel
        clear HV HB HF HO
        have HV := hide hval2
        have HB := hide hblk2
        have HF := hide hfr2
        have HO := hide hout2
        have hl := hout2.len
        clear hval2
        by_cases hc0 : cy2 = 0
        · subst hc0
          have HR := hide (seg_rest_sub Z Z2 zo k n _ hk2 hzo hout2 (by have h := HV.out; rw [Nat.zero_mul, Nat.add_zero] at h; exact h))
          clear hblk2 hfr2 hout2 HV
          go_wp2
          go_end0
          exact ⟨rfl, Z2, HO.out.wider (Nat.le_refl _) (by omega), hlz2, HB.out, HF.out, HR.out⟩
        · have hpos : (0 : Int) < (cy2 : Int) := by omega
          have hkn : k < n := by
            rcases Nat.lt_or_ge k n with h | h
            · exact h
            · have ek : k = n := by omega
              subst ek
              exact absurd (seg_no_borrow Z Z2 zo k cy2 (val P) hlz2 HFIT.out HV.out) hc0
          have hfr := hblk2.free (zo + k)
          have hco := hblk2.cell (zo + k) (by omega)
          have z2 := limb_lt hlz2 (zo + k)
          have hsame := hout2.same (zo + k) (by omega)
          have ha := sub64_0' (Z2.getD (zo + k) 0) cy2 hcy2
          obtain ⟨q1, q2, q3⟩ := sub_limb (Z2.getD (zo + k) 0) 0 cy2 z2 (by omega) hcy2
          have HS := hide (seg_sub_step Z Z2 zo k cy2 _ _ 0 _ (by omega) hl HV.out (by rw [← hsame]; exact q1))
          rw [Nat.mul_zero, Nat.add_zero] at HS
          generalize Z2.getD (zo + k) 0 = z at *
          clear hsame q1
          generalize (z + 18446744073709551616 - 0 - cy2) % 18446744073709551616 = s at *
          generalize bor z 0 cy2 = c2 at *
          clear hblk2 hfr2 hout2 HV hc0
          go_wp2
          go_roundw
          case rel => exact ⟨k + 1, c2, Z2.set (zo + k) s, by omega, by go_num, rfl, q2, (HO.out.wider (Nat.le_refl _) (by omega)).set _ _ (by omega) (by omega), limbs_set hlz2 _ _ q3, HB.out.set _ s, HF.out.setCell _ _, HS.out⟩
          case measure => simp [intOf]; omega

end Go.Proofs.YtppblbhkghjphaaGreatDoor
