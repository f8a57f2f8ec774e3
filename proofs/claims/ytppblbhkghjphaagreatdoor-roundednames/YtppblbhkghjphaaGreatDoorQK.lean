/- Knuth's guess of a quotient's limb: plain facts. -/
import Derived.Test.YtppblbhkghjphaaGreatDoorQA
import Derived.Test.YtppblbhkghjphaaGreatDoorQC
import Derived.Test.YtppblbhkghjphaaGreatDoorQB
import Derived.Test.YtppblbhkghjphaaGreatDoorQG
import Derived.Test.YtppblbhkghjphaaGreatDoorQD
import Derived.BigQuiet
import Derived.Test.YtppblbhkghjphaaGreatDoorQE
import Derived.Test.YtppblbhkghjphaaGreatDoorQF
namespace Go.Proofs.YtppblbhkghjphaaGreatDoor
namespace Lm

/-- U and V by their highest limbs: k U = (U2 W + u3) E + lowU, k V = (top W + next) E + lowV. -/
structure Tops (U V U2 u3 top next : Nat) : Prop where
  ex : ∃ k E a b : Nat, 0 < k ∧ 0 < E ∧ a < E ∧ b < E ∧ k * U = (U2 * 18446744073709551616 + u3) * E + a ∧ k * V = (top * 18446744073709551616 + next) * E + b
  u3 : u3 < 18446744073709551616
  next : next < 18446744073709551616

theorem Tops.le {U V U2 u3 top next Q : Nat} (h : Tops U V U2 u3 top next) (hQ : Q * V ≤ U) : Q * (top * 18446744073709551616 + next) ≤ U2 * 18446744073709551616 + u3 := by
  obtain ⟨k, E, a, b, hk, hE, ha, hb, eU, eV⟩ := h.ex
  clear h
  generalize (18446744073709551616 : Nat) = W at *
  generalize U2 * W + u3 = U3 at *
  generalize top * W + next = V2 at *
  have h1 : k * (Q * V) ≤ k * U := Nat.mul_le_mul_left k hQ
  have e1 : k * (Q * V) = Q * V2 * E + Q * b := by
    have : k * (Q * V) = Q * (k * V) := by rw [← Nat.mul_assoc, Nat.mul_comm k Q, Nat.mul_assoc]
    rw [this, eV, Nat.mul_add, Nat.mul_assoc]
  have h2 : Q * V2 * E < (U3 + 1) * E := by rw [Nat.add_mul, Nat.one_mul]; omega
  have := Nat.lt_of_mul_lt_mul_right h2
  omega

theorem Tops.first {U V U2 u3 top next Q : Nat} (h : Tops U V U2 u3 top next) (hQ : Q * V ≤ U) : Q * top ≤ U2 := by
  have h1 := h.le hQ
  have h2 := h.u3
  rw [Nat.mul_add, ← Nat.mul_assoc] at h1
  have h3 : Q * top * 18446744073709551616 < (U2 + 1) * 18446744073709551616 := by omega
  have := Nat.lt_of_mul_lt_mul_right h3
  omega

theorem Tops.down {U V U2 u3 top next Q q rest : Nat} (h : Tops U V U2 u3 top next) (hQ : Q * V ≤ U) (e : q * top + rest = U2) (hb : rest * 18446744073709551616 + u3 < q * next) : Q < q := by
  refine Nat.lt_of_not_le fun hq => ?_
  have h1 := h.le hQ
  have h2 := Nat.mul_le_mul_right (top * 18446744073709551616 + next) hq
  rw [Nat.mul_add, ← Nat.mul_assoc] at h2
  rw [← e, Nat.add_mul] at h1
  omega

theorem Tops.up {U V U2 u3 top next q : Nat} (h : Tops U V U2 u3 top next) (hq : q < 18446744073709551616) (ht : 9223372036854775808 ≤ top) (hle : q * (top * 18446744073709551616 + next) ≤ U2 * 18446744073709551616 + u3) : q * V < U + V := by
  obtain ⟨k, E, a, b, hk, hE, ha, hb, eU, eV⟩ := h.ex
  have h3 : q ≤ top * 18446744073709551616 + next := by omega
  have h8 : 1 ≤ top * 18446744073709551616 + next := by omega
  clear h hq ht
  generalize (18446744073709551616 : Nat) = W at *
  generalize U2 * W + u3 = U3 at *
  generalize top * W + next = V2 at *
  have e1 : k * (q * V) = q * V2 * E + q * b := by
    have : k * (q * V) = q * (k * V) := by rw [← Nat.mul_assoc, Nat.mul_comm k q, Nat.mul_assoc]
    rw [this, eV, Nat.mul_add, Nat.mul_assoc]
  have h4 := Nat.mul_le_mul_right E hle
  have h5 : q * b ≤ q * E := Nat.mul_le_mul_left q (Nat.le_of_lt hb)
  have h6 := Nat.mul_le_mul_right E h3
  refine Nat.lt_of_mul_lt_mul_left (a := k) ?_
  rw [e1, Nat.mul_add, eU, eV]
  rcases Nat.eq_zero_or_pos q with h0 | h0
  · subst h0
    have h7 : 0 < k * V := by
      rw [eV]
      have := Nat.mul_le_mul h8 hE
      omega
    rw [eV] at h7
    simp only [Nat.zero_mul, Nat.zero_add]
    omega
  · have h7 : q * b < q * E := Nat.mul_lt_mul_of_pos_left hb h0
    omega

/-- A guess that is not too small and hardly too great. -/
theorem guess_end {U V q : Nat} (hV : 0 < V) (h1 : U / V ≤ q) (h2 : q * V < U + V) : q = U / V ∨ q = U / V + 1 := by
  have h3 : q < U / V + 2 := by
    refine Nat.lt_of_not_le fun h => ?_
    have h4 := Nat.mul_le_mul_right V h
    have h5 := Nat.div_add_mod U V
    have h6 := Nat.mod_lt U hV
    rw [Nat.add_mul] at h4
    rw [Nat.mul_comm] at h5
    omega
  omega

end Lm
end Go.Proofs.YtppblbhkghjphaaGreatDoor

/- Division by blocks: plain facts. U = Uh B + Ul, V = Vh B + Vl; H is the quotient's room. -/
namespace Go.Proofs.YtppblbhkghjphaaGreatDoor
namespace Lm

/-- The guess by the highest limbs is not too small. -/
theorem block_first {U V Uh Ul Vh Vl B q R H : Nat} (eU : U = Uh * B + Ul) (hUl : Ul < B) (eV : V = Vh * B + Vl) (hV : 0 < V) (e : q * Vh + R = Uh) (hc : R < Vh ∨ q = H - 1) (hUV : U < V * H) : U / V ≤ q := by
  have h1 := Nat.div_mul_le_self U V
  generalize hQ : U / V = Q at *
  rcases hc with hc | hc
  · have h2 : Q * Vh ≤ Uh := by
      have h3 : Q * Vh * B < (Uh + 1) * B := by
        have : Q * V = Q * Vh * B + Q * Vl := by rw [eV, Nat.mul_add, Nat.mul_assoc]
        rw [Nat.add_mul, Nat.one_mul]
        omega
      have := Nat.lt_of_mul_lt_mul_right h3
      omega
    refine Nat.le_of_not_lt fun h => ?_
    have h4 := Nat.mul_le_mul_right Vh (Nat.succ_le_of_lt h)
    rw [Nat.succ_eq_add_one, Nat.add_mul, Nat.one_mul] at h4
    omega
  · have h2 : Q < H := by
      rw [← hQ, Nat.div_lt_iff_lt_mul hV, Nat.mul_comm]; exact hUV
    omega

/-- While there is a borrow the quotient is too great. -/
theorem block_turn {U V q X M : Nat} (hV : 0 < V) (h : X + q * V = U + 1 * M) (hX : X < M) : U / V < q := by
  rw [Nat.div_lt_iff_lt_mul hV]
  omega

/-- One less, and the divisor added again. -/
theorem block_next {U V q X X' M c : Nat} (hq : 1 ≤ q) (h : X + q * V = U + 1 * M) (hp : X' + c * M = X + V) (hc : c ≤ 1) : X' + (q - 1) * V = U + (1 - c) * M := by
  obtain ⟨p, rfl⟩ : ∃ p, q = p + 1 := ⟨q - 1, by omega⟩
  rw [Nat.add_mul, Nat.one_mul] at h
  rw [Nat.add_sub_cancel]
  rcases (by omega : c = 0 ∨ c = 1) with rfl | rfl
  · omega
  · omega

/-- Without a borrow it is the quotient, and the rest is left. -/
theorem block_end {U V q X : Nat} (hV : 0 < V) (h : X + q * V = U + 0 * 0) (hq : U / V ≤ q) : q = U / V ∧ X = U % V := by
  have h1 : q ≤ U / V := (Nat.le_div_iff_mul_le hV).2 (by omega)
  have h2 : q = U / V := by omega
  have h3 := Nat.div_add_mod U V
  rw [Nat.mul_comm, ← h2] at h3
  exact ⟨h2, by omega⟩

/-- What is left of the high part, without the product with the low part. -/
theorem block_take {U V Uh Ul Vh Vl B q R X M c : Nat} (eU : U = Uh * B + Ul) (eV : V = Vh * B + Vl) (e : q * Vh + R = Uh) (hm : X + q * Vl = R * B + Ul + c * M) : X + q * V = U + c * M := by
  have h1 : q * V = q * Vh * B + q * Vl := by rw [eV, Nat.mul_add, Nat.mul_assoc]
  rw [h1, eU, ← e, Nat.add_mul]
  omega

end Lm
end Go.Proofs.YtppblbhkghjphaaGreatDoor

/- The law's own example. -/
namespace Go.Proofs.YtppblbhkghjphaaGreatDoor
open Go.RowKit
open Lm

theorem awake_val : val [0, 1] * val [7, 3] = val [0, 7, 3] := by decide

end Go.Proofs.YtppblbhkghjphaaGreatDoor

/- Package div: trim, plus. -/
namespace Go.Proofs.YtppblbhkghjphaaGreatDoor
open Go.RowKit
open Lm

theorem dtrim_some (b off cap : Nat) (zs : List Nat) (w : World) (hcap : zs.length ≤ cap) (hmax : cap ≤ 9223372036854775807)
    (hc : ∀ k, k < zs.length → w.cell? ⟨b, off + k, none⟩ = some (.int .u64 ((zs.getD k 0 : Nat) : Int))) :
    Calls Tryz.prog 67 #[.slice (some ⟨b, off, none⟩) zs.length cap] w fun e w' => e = .returned (.slice (some ⟨b, off, none⟩) (tr zs).length cap) ∧ w' = w := by
  go_enter Tryz.func67, Tryz.ntmps67
  go_wp2
  go_loop [3] (fun n => ∃ k : Nat, k ≤ zs.length ∧ n = .int .i64 k ∧ tr (zs.take k) = tr zs) (fun n => (intOf n).toNat)
  case atStart => exact ⟨zs.length, Nat.le_refl _, rfl, by rw [List.take_length]⟩
  case round =>
    obtain ⟨k, hk, rfl, ht⟩ := hrel
    have HT : Hid (tr (zs.take k) = tr zs) := ht
    clear ht
    by_cases h0 : k = 0
    · subst h0
      go_wp2
      go_ret
      have e := HT.out
      simp only [List.take_zero, tr] at e
      rw [← e]
      exact ⟨rfl, rfl⟩
    · obtain ⟨j, rfl⟩ : ∃ j, k = j + 1 := ⟨k - 1, by omega⟩
      have hcj := hc j (by omega)
      clear hc
      by_cases hz : zs.getD j 0 = 0
      · have HZ : Hid (tr (zs.take j) = tr zs) := by rw [← tr_step zs j (by omega) hz]; exact HT.out
        rw [hz] at hcj
        clear hz HT
        go_wp2
        go_round
        case rel => exact ⟨j, by omega, by go_num, HZ.out⟩
        case measure => simp [intOf]
      · have HZ : Hid (tr zs = zs.take (j + 1)) := by rw [← HT.out]; exact tr_stop zs j (by omega) hz
        clear HT
        generalize zs.getD j 0 = z at hcj hz
        have hne : ((z : Int) == 0) = false := by rw [beq_eq_false_iff_ne]; omega
        clear hz
        go_wp2
        go_ret
        rw [HZ.out]
        have e : (zs.take (j + 1)).length = j + 1 := by simp; omega
        rw [e]
        exact ⟨rfl, rfl⟩

/-- An empty list: whatever its address. -/
theorem dtrim_none (ao : Option Addr) (cap : Nat) (w : World) (_hmax : cap ≤ 9223372036854775807) :
    Calls Tryz.prog 67 #[.slice ao 0 cap] w fun e w' => e = .returned (.slice ao 0 cap) ∧ w' = w := by
  go_enter Tryz.func67, Tryz.ntmps67
  go_wp2
  refine wp_loop_rounds 1 ?_
  rw [rounds_succ]
  go_wp2
  go_ret
  exact ⟨rfl, rfl⟩

theorem dtrim_any (ao : Option Addr) (cap : Nat) (zs : List Nat) (w : World) (hcap : zs.length ≤ cap) (hmax : cap ≤ 9223372036854775807) (hl : Lies w ao zs) :
    Calls Tryz.prog 67 #[.slice ao zs.length cap] w fun e w' => e = .returned (.slice ao (tr zs).length cap) ∧ w' = w := by
  rcases hl with rfl | ⟨b, off, rfl, hc⟩
  · exact dtrim_none ao cap w hmax
  · exact dtrim_some b off cap zs w hcap hmax hc

/-- A call in place that answers a carry. -/
def CarryDone (bz zo n : Nat) (Z : List Nat) (w : World) (p : Nat) (e : Ending) (w' : World) : Prop :=
  ∃ (cy : Nat) (Z' : List Nat), cy ≤ 1 ∧ e = .returned (.int .u64 (cy : Int)) ∧ Out Z Z' zo (zo + n) ∧ Limbs Z' ∧ Blk w' bz Z' ∧ Fr bz w w' ∧ sv Z' zo n + cy * 18446744073709551616 ^ n = p

set_option maxHeartbeats 1000000 in
theorem dplus_any (bz zo n cap : Nat) (Z : List Nat) (va : Value) (X : List Nat) (w : World) (hB : Blk w bz Z) (hLZ : Limbs Z) (hA : Arg w va X) (ho : Off va bz zo (zo + n))
    (hzo : zo + n ≤ Z.length) (hc1 : n ≤ cap) (hc2 : cap ≤ 9223372036854775807) (hfit : X.length ≤ n) :
    Calls Tryz.prog 104 #[.slice (some ⟨bz, zo, none⟩) n cap, va] w (CarryDone bz zo n Z w (sv Z zo n + val X)) := by
  obtain ⟨a1, c1, rfl, hcc1, hcm1, hl1⟩ := hA.form
  have hX := hA.few
  have M1 := hA.limbs
  have hao : ∀ b off, a1 = some ⟨b, off, none⟩ → b ≠ bz ∨ off + X.length ≤ zo ∨ zo + n ≤ off := fun b off e => by
    subst e
    exact ho b off _ _ rfl
  have L1 := hl1
  clear ho hA hl1
  generalize X = P at *
  have HB0 := hide hB
  have HLZ := hide hLZ
  go_enter Tryz.func104, Tryz.ntmps104
  go_wp2
  go_loopw [5, 11] (fun c i wr => ∃ (k cy : Nat) (Z' : List Nat), k ≤ P.length ∧ i = .int .i64 k ∧ c = .int .u64 cy ∧ cy ≤ 1 ∧ Out Z Z' zo (zo + k) ∧ Limbs Z' ∧ Blk wr bz Z' ∧ Fr bz w wr ∧
      sv Z' zo k + cy * 18446744073709551616 ^ k = sv Z zo k + val (P.take k)) (fun _ i _ => P.length - (intOf i).toNat)
  case atStart => exact ⟨0, 0, Z, Nat.zero_le _, rfl, rfl, by omega, Out.refl _ _ _, HLZ.out, HB0.out, Fr.refl _ _, by simp [sv_zero, val]⟩
  case round =>
    obtain ⟨k, cy, Z', hk, rfl, rfl, hcy, hout, hlz, hblk, hfr0, hval⟩ := hrel
    have HV := hide hval
    have HB := hide hblk
    have HF := hide hfr0
    have HO := hide hout
    have hl := hout.len
    clear hval
    by_cases hkl : k < P.length
    · rcases L1.fr hao hfr0 hB hblk (hout.wider (Nat.le_refl _) (by omega)) with h0 | ⟨b, off, rfl, hcell⟩
      · rw [h0] at hkl; simp at hkl
      · have hck := hcell k hkl
        have hfr := hblk.free (zo + k)
        have hco := hblk.cell (zo + k) (by omega)
        have z1 := limb_lt M1 k
        have z2 := limb_lt hlz (zo + k)
        have hsame := hout.same (zo + k) (by omega)
        have ha := add64 (Z'.getD (zo + k) 0) (P.getD k 0) cy hcy
        obtain ⟨q1, q2, q3⟩ := add_limb (Z'.getD (zo + k) 0) (P.getD k 0) cy z2 z1 hcy
        have HS := hide (seg_add_step Z Z' zo k cy _ _ (P.getD k 0) _ (by omega) hl HV.out (by rw [← hsame]; exact q1))
        rw [← val_take_next P k] at HS
        generalize Z'.getD (zo + k) 0 = z at *
        generalize P.getD k 0 = x at *
        clear hsame q1
        generalize (z + x + cy) % 18446744073709551616 = s at *
        generalize (z + x + cy) / 18446744073709551616 = c2 at *
        clear hcell hblk hfr0 hout HV M1 L1 hB hLZ
        go_wp2
        go_roundw
        case rel => exact ⟨k + 1, c2, Z'.set (zo + k) s, by omega, by go_num, rfl, q2, (HO.out.wider (Nat.le_refl _) (by omega)).set _ _ (by omega) (by omega), limbs_set hlz _ _ q3, HB.out.set _ s, HF.out.setCell _ _, HS.out⟩
        case measure => simp [intOf]; omega
    · have ek : k = P.length := by omega
      subst ek
      rw [List.take_length] at HV
      clear hblk hfr0 hout L1 hB M1 hLZ hl
      go_wp2
      go_loopw [5, 8] (fun c i wr2 => ∃ (k cy : Nat) (Z2 : List Nat), k ≤ n ∧ i = .int .i64 k ∧ c = .int .u64 cy ∧ cy ≤ 1 ∧ Out Z Z2 zo (zo + k) ∧ Limbs Z2 ∧ Blk wr2 bz Z2 ∧ Fr bz w wr2 ∧
          sv Z2 zo k + cy * 18446744073709551616 ^ k = sv Z zo k + val P) (fun _ i _ => n - (intOf i).toNat)
      case atStart => exact ⟨P.length, cy, Z', hfit, rfl, rfl, hcy, HO.out, hlz, HB.out, HF.out, HV.out⟩
      case round =>
        obtain ⟨k, cy2, Z2, hk2, rfl, rfl, hcy2, hout2, hlz2, hblk2, hfr2, hval2⟩ := hrel
        clear HV HB HF HO
        have HV := hide hval2
        have HB := hide hblk2
        have HF := hide hfr2
        have HO := hide hout2
        have hl := hout2.len
        clear hval2
        by_cases hc0 : cy2 = 0
        · subst hc0
          have HR := hide (seg_rest Z Z2 zo k n _ hk2 hzo hout2 (by have h := HV.out; rw [Nat.zero_mul, Nat.add_zero] at h; exact h))
          clear hblk2 hfr2 hout2 HV
          go_wp2
          go_ret
          exact ⟨0, Z2, by omega, rfl, HO.out.wider (Nat.le_refl _) (by omega), hlz2, HB.out, HF.out, by rw [HR.out]; omega⟩
        · have hpos : (0 : Int) < (cy2 : Int) := by omega
          by_cases hkn : ¬ k < n
          · have ek : k = n := by omega
            subst ek
            clear hblk2 hfr2 hout2
            have hend : ¬ ((k : Int) < (k : Int)) := by omega
            go_wp2
            go_ret
            exact ⟨cy2, Z2, hcy2, rfl, HO.out, hlz2, HB.out, HF.out, HV.out⟩
          replace hkn : k < n := by omega
          have hkn' : (k : Int) < (n : Int) := by omega
          have hfr := hblk2.free (zo + k)
          have hco := hblk2.cell (zo + k) (by omega)
          have z2 := limb_lt hlz2 (zo + k)
          have hsame := hout2.same (zo + k) (by omega)
          have ha := add64_0 (Z2.getD (zo + k) 0) cy2
          obtain ⟨q1, q2, q3⟩ := add_limb (Z2.getD (zo + k) 0) 0 cy2 z2 (by omega) hcy2
          have HS := hide (seg_add_step Z Z2 zo k cy2 _ _ 0 _ (by omega) hl HV.out (by rw [← hsame]; exact q1))
          rw [Nat.mul_zero, Nat.add_zero] at HS
          rw [Nat.add_zero] at HS q2 q3
          generalize Z2.getD (zo + k) 0 = z at *
          clear hsame q1
          generalize (z + cy2) % 18446744073709551616 = s at *
          generalize (z + cy2) / 18446744073709551616 = c2 at *
          clear hblk2 hfr2 hout2 HV hc0
          go_wp2
          go_roundw
          case rel => exact ⟨k + 1, c2, Z2.set (zo + k) s, by omega, by go_num, rfl, q2, (HO.out.wider (Nat.le_refl _) (by omega)).set _ _ (by omega) (by omega), limbs_set hlz2 _ _ q3, HB.out.set _ s, HF.out.setCell _ _, HS.out⟩
          case measure => simp [intOf]; omega

end Go.Proofs.YtppblbhkghjphaaGreatDoor

/- Package div: minus, minusTimes. -/
namespace Go.Proofs.YtppblbhkghjphaaGreatDoor
open Go.RowKit
open Lm

/-- A call in place that takes V away and answers a borrow. -/
def BorrowDone (bz zo n : Nat) (Z : List Nat) (w : World) (V : Nat) (e : Ending) (w' : World) : Prop :=
  ∃ (cy : Nat) (Z' : List Nat), cy ≤ 1 ∧ e = .returned (.int .u64 (cy : Int)) ∧ Out Z Z' zo (zo + n) ∧ Limbs Z' ∧ Blk w' bz Z' ∧ Fr bz w w' ∧ sv Z' zo n + V = sv Z zo n + cy * 18446744073709551616 ^ n

theorem seg_rest_add (Z Z' : List Nat) (o k n V : Nat) (hk : k ≤ n) (hn : o + n ≤ Z.length) (ho : Out Z Z' o (o + k)) (h : sv Z' o k + V = sv Z o k) : sv Z' o n + V = sv Z o n := by
  obtain ⟨d, rfl⟩ : ∃ d, n = k + d := ⟨n - k, by omega⟩
  rw [sv_split Z' o k d (by rw [ho.len]; omega), sv_split Z o k d (by omega), ← h, ho.sv (o + k) d (by omega)]
  omega

set_option maxHeartbeats 1000000 in
theorem dminus_any (bz zo n cap : Nat) (Z : List Nat) (va : Value) (X : List Nat) (w : World) (hB : Blk w bz Z) (hLZ : Limbs Z) (hA : Arg w va X) (ho : Off va bz zo (zo + n))
    (hzo : zo + n ≤ Z.length) (hc1 : n ≤ cap) (hc2 : cap ≤ 9223372036854775807) (hfit : X.length ≤ n) :
    Calls Tryz.prog 106 #[.slice (some ⟨bz, zo, none⟩) n cap, va] w (BorrowDone bz zo n Z w (val X)) := by
  obtain ⟨a1, c1, rfl, hcc1, hcm1, hl1⟩ := hA.form
  have hX := hA.few
  have M1 := hA.limbs
  have hao : ∀ b off, a1 = some ⟨b, off, none⟩ → b ≠ bz ∨ off + X.length ≤ zo ∨ zo + n ≤ off := fun b off e => by
    subst e
    exact ho b off _ _ rfl
  have L1 := hl1
  clear ho hA hl1
  generalize X = P at *
  have HB0 := hide hB
  have HLZ := hide hLZ
  go_enter Tryz.func106, Tryz.ntmps106
  go_wp2
  go_loopw [5, 11] (fun c i wr => ∃ (k cy : Nat) (Z' : List Nat), k ≤ P.length ∧ i = .int .i64 k ∧ c = .int .u64 cy ∧ cy ≤ 1 ∧ Out Z Z' zo (zo + k) ∧ Limbs Z' ∧ Blk wr bz Z' ∧ Fr bz w wr ∧
      sv Z' zo k + val (P.take k) = sv Z zo k + cy * 18446744073709551616 ^ k) (fun _ i _ => P.length - (intOf i).toNat)
  case atStart => exact ⟨0, 0, Z, Nat.zero_le _, rfl, rfl, by omega, Out.refl _ _ _, HLZ.out, HB0.out, Fr.refl _ _, by simp [sv_zero, val]⟩
  case round =>
    obtain ⟨k, cy, Z', hk, rfl, rfl, hcy, hout, hlz, hblk, hfr0, hval⟩ := hrel
    have HV := hide hval
    have HB := hide hblk
    have HF := hide hfr0
    have HO := hide hout
    have hl := hout.len
    clear hval
    by_cases hkl : k < P.length
    · rcases L1.fr hao hfr0 hB hblk (hout.wider (Nat.le_refl _) (by omega)) with h0 | ⟨b, off, rfl, hcell⟩
      · rw [h0] at hkl; simp at hkl
      · have hck := hcell k hkl
        have hfr := hblk.free (zo + k)
        have hco := hblk.cell (zo + k) (by omega)
        have z1 := limb_lt M1 k
        have z2 := limb_lt hlz (zo + k)
        have hsame := hout.same (zo + k) (by omega)
        have ha := sub64' (Z'.getD (zo + k) 0) (P.getD k 0) cy hcy
        obtain ⟨q1, q2, q3⟩ := sub_limb (Z'.getD (zo + k) 0) (P.getD k 0) cy z2 z1 hcy
        have HS := hide (seg_sub_step Z Z' zo k cy _ _ (P.getD k 0) _ (by omega) hl HV.out (by rw [← hsame]; exact q1))
        rw [← val_take_next P k] at HS
        generalize Z'.getD (zo + k) 0 = z at *
        generalize P.getD k 0 = x at *
        clear hsame q1
        generalize (z + 18446744073709551616 - x - cy) % 18446744073709551616 = s at *
        generalize bor z x cy = c2 at *
        clear hcell hblk hfr0 hout HV M1 L1 hB hLZ
        go_wp2
        go_roundw
        case rel => exact ⟨k + 1, c2, Z'.set (zo + k) s, by omega, by go_num, rfl, q2, (HO.out.wider (Nat.le_refl _) (by omega)).set _ _ (by omega) (by omega), limbs_set hlz _ _ q3, HB.out.set _ s, HF.out.setCell _ _, HS.out⟩
        case measure => simp [intOf]; omega
    · have ek : k = P.length := by omega
      subst ek
      rw [List.take_length] at HV
      clear hblk hfr0 hout L1 hB M1 hLZ hl
      go_wp2
      go_loopw [5, 8] (fun c i wr2 => ∃ (k cy : Nat) (Z2 : List Nat), k ≤ n ∧ i = .int .i64 k ∧ c = .int .u64 cy ∧ cy ≤ 1 ∧ Out Z Z2 zo (zo + k) ∧ Limbs Z2 ∧ Blk wr2 bz Z2 ∧ Fr bz w wr2 ∧
          sv Z2 zo k + val P = sv Z zo k + cy * 18446744073709551616 ^ k) (fun _ i _ => n - (intOf i).toNat)
      case atStart => exact ⟨P.length, cy, Z', hfit, rfl, rfl, hcy, HO.out, hlz, HB.out, HF.out, HV.out⟩
      case round =>
        obtain ⟨k, cy2, Z2, hk2, rfl, rfl, hcy2, hout2, hlz2, hblk2, hfr2, hval2⟩ := hrel
        clear HV HB HF HO
        have HV := hide hval2
        have HB := hide hblk2
        have HF := hide hfr2
        have HO := hide hout2
        have hl := hout2.len
        clear hval2
        by_cases hc0 : cy2 = 0
        · subst hc0
          have HR := hide (seg_rest_add Z Z2 zo k n _ hk2 hzo hout2 (by have h := HV.out; rw [Nat.zero_mul, Nat.add_zero] at h; exact h))
          clear hblk2 hfr2 hout2 HV
          go_wp2
          go_ret
          exact ⟨0, Z2, by omega, rfl, HO.out.wider (Nat.le_refl _) (by omega), hlz2, HB.out, HF.out, by have := HR.out; omega⟩
        · have hpos : (0 : Int) < (cy2 : Int) := by omega
          by_cases hkn : ¬ k < n
          · have ek : k = n := by omega
            subst ek
            clear hblk2 hfr2 hout2
            have hend : ¬ ((k : Int) < (k : Int)) := by omega
            go_wp2
            go_ret
            exact ⟨cy2, Z2, hcy2, rfl, HO.out, hlz2, HB.out, HF.out, HV.out⟩
          replace hkn : k < n := by omega
          have hkn' : (k : Int) < (n : Int) := by omega
          have hfr := hblk2.free (zo + k)
          have hco := hblk2.cell (zo + k) (by omega)
          have z2 := limb_lt hlz2 (zo + k)
          have hsame := hout2.same (zo + k) (by omega)
          have ha := sub64_0' (Z2.getD (zo + k) 0) cy2 hcy2
          obtain ⟨q1, q2, q3⟩ := sub_limb (Z2.getD (zo + k) 0) 0 cy2 z2 (by omega) hcy2
          have HS := hide (seg_sub_step Z Z2 zo k cy2 _ _ 0 _ (by omega) hl HV.out (by rw [← hsame]; exact q1))
          rw [Nat.mul_zero, Nat.add_zero] at HS
          generalize Z2.getD (zo + k) 0 = z at *
          clear hsame q1
          generalize (z + 18446744073709551616 - 0 - cy2) % 18446744073709551616 = s at *
          generalize bor z 0 cy2 = c2 at *
          clear hblk2 hfr2 hout2 HV hc0
          go_wp2
          go_roundw
          case rel => exact ⟨k + 1, c2, Z2.set (zo + k) s, by omega, by go_num, rfl, q2, (HO.out.wider (Nat.le_refl _) (by omega)).set _ _ (by omega) (by omega), limbs_set hlz2 _ _ q3, HB.out.set _ s, HF.out.setCell _ _, HS.out⟩
          case measure => simp [intOf]; omega

end Go.Proofs.YtppblbhkghjphaaGreatDoor

/- Package div: minusTimes. -/
namespace Go.Proofs.YtppblbhkghjphaaGreatDoor
open Go.RowKit
open Lm
attribute [local go_sem ↓] Go.wp_at_zero Go.wp_at_succ

set_option maxHeartbeats 1000000 in
theorem dminusTimes_any (bz zo n cap : Nat) (Z : List Nat) (va : Value) (X : List Nat) (m : Nat) (w : World) (hB : Blk w bz Z) (hLZ : Limbs Z) (hA : Arg w va X) (ho : Off va bz zo (zo + n))
    (hzo : zo + n ≤ Z.length) (hc1 : n ≤ cap) (hc2 : cap ≤ 9223372036854775807) (hm : m < 18446744073709551616) (hfit : X.length < n) :
    Calls Tryz.prog 103 #[.slice (some ⟨bz, zo, none⟩) n cap, va, .int .u64 m] w (BorrowDone bz zo n Z w (val X * m)) := by
  obtain ⟨a1, c1, rfl, hcc1, hcm1, hl1⟩ := hA.form
  have hX := hA.few
  have M1 := hA.limbs
  have hao : ∀ b off, a1 = some ⟨b, off, none⟩ → b ≠ bz ∨ off + X.length ≤ zo ∨ zo + n ≤ off := fun b off e => by
    subst e
    exact ho b off _ _ rfl
  have L1 := hl1
  clear ho hA hl1
  generalize X = P at *
  have HB0 := hide hB
  have HLZ := hide hLZ
  go_enter Tryz.func103, Tryz.ntmps103
  go_wp2
  go_loopw [7, 16] (fun c i wr => ∃ (k cy : Nat) (Z' : List Nat), k ≤ P.length ∧ i = .int .i64 k ∧ c = .int .u64 cy ∧ cy < 18446744073709551616 ∧ Out Z Z' zo (zo + k) ∧ Limbs Z' ∧ Blk wr bz Z' ∧ Fr bz w wr ∧
      sv Z' zo k + val (P.take k) * m = sv Z zo k + cy * 18446744073709551616 ^ k) (fun _ i _ => P.length - (intOf i).toNat)
  case atStart => exact ⟨0, 0, Z, Nat.zero_le _, rfl, rfl, by omega, Out.refl _ _ _, HLZ.out, HB0.out, Fr.refl _ _, by simp [sv_zero, val]⟩
  case round =>
    obtain ⟨k, cy, Z', hk, rfl, rfl, hcy, hout, hlz, hblk, hfr0, hval⟩ := hrel
    have HV := hide hval
    have HB := hide hblk
    have HF := hide hfr0
    have HO := hide hout
    have hl := hout.len
    clear hval
    by_cases hkl : k < P.length
    · rcases L1.fr hao hfr0 hB hblk (hout.wider (Nat.le_refl _) (by omega)) with h0 | ⟨b, off, rfl, hcell⟩
      · rw [h0] at hkl; simp at hkl
      · have hck := hcell k hkl
        have hfr := hblk.free (zo + k)
        have hco := hblk.cell (zo + k) (by omega)
        have z1 := limb_lt M1 k
        have z2 := limb_lt hlz (zo + k)
        have hsame := hout.same (zo + k) (by omega)
        have hft := minusTimes_limb (P.getD k 0 * m) (Z'.getD (zo + k) 0) cy (by have := Nat.mul_le_mul (Nat.le_sub_one_of_lt z1) (Nat.le_sub_one_of_lt hm); omega) z2 hcy
        have HS := hide (fun c2 s hs => seg_sub_step' Z Z' zo k cy c2 s (P.getD k 0 * m) _ (by omega) hl HV.out hs)
        rw [← hsame] at HS
        have hst : val (P.take k) * m + 18446744073709551616 ^ k * (P.getD k 0 * m) = val (P.take (k + 1)) * m := by
          rw [val_take_next P k, Nat.add_mul, Nat.mul_assoc]
        rw [hst] at HS
        have ha1 := add64_0 (P.getD k 0 * m % 18446744073709551616) cy
        have ha2 := sub64_z (Z'.getD (zo + k) 0) ((P.getD k 0 * m % 18446744073709551616 + cy) % 18446744073709551616)
        have hM := Tryz.bits_Mul64 (P.getD k 0) m z1 hm wr
        generalize Z'.getD (zo + k) 0 = z at *
        generalize P.getD k 0 = x at *
        generalize hPP : x * m = PP at *
        clear hPP hsame hst
        obtain ⟨q1, q2, q3, q4⟩ := hft
        have HS2 := hide (HS.out _ _ q1)
        clear HS q1
        generalize (z + 18446744073709551616 - (PP % 18446744073709551616 + cy) % 18446744073709551616) % 18446744073709551616 = s at *
        generalize bor z ((PP % 18446744073709551616 + cy) % 18446744073709551616) 0 = un at *
        generalize (PP % 18446744073709551616 + cy) % 18446744073709551616 = l2 at *
        generalize (PP % 18446744073709551616 + cy) / 18446744073709551616 = o1 at *
        generalize PP / 18446744073709551616 = h1 at *
        generalize PP % 18446744073709551616 = l1 at *
        have e1 : (h1 : Int) + (o1 : Int) = ((h1 + o1 : Nat) : Int) := by omega
        generalize h1 + o1 = h2 at *
        have e2 : (h2 : Int) + (un : Int) = ((h2 + un : Nat) : Int) := by omega
        generalize h2 + un = c2 at *
        clear hcell hblk hfr0 hout HV M1 L1 hB hLZ
        go_wp2_with fail
        refine hM.mono ?_
        rintro e w2 ⟨rfl, rfl⟩
        clear hM
        go_wp2
        go_roundw
        case rel => exact ⟨k + 1, c2, Z'.set (zo + k) s, by omega, by go_num, rfl, q3, (HO.out.wider (Nat.le_refl _) (by omega)).set _ _ (by omega) (by omega), limbs_set hlz _ _ q4, HB.out.set _ s, HF.out.setCell _ _, HS2.out⟩
        case measure => simp [intOf]; omega
    · have ek : k = P.length := by omega
      subst ek
      rw [List.take_length] at HV
      have hbs := hblk.lt
      have HD := dminus_any bz (zo + P.length) (n - P.length) (cap - P.length) Z' (.slice (some ⟨wr.heap.size, 0, none⟩) 1 1) [cy] (wr.alloc (.cells #[.int .u64 (cy : Int)] 32)) (hblk.alloc _) hlz
        (Arg.lits wr [cy] #[.int .u64 (cy : Int)] 1 rfl rfl (by intro z hz; simp at hz; omega) (by simp)) (fun b off _ _ e => by cases e; exact .inl (by omega)) (by rw [hl]; omega) (by omega) (by omega) (by simp; omega)
      have hcp : ¬ cap = P.length := by omega
      have ec1 : (n : Int) - (P.length : Int) = ((n - P.length : Nat) : Int) := by omega
      have ec2 : (cap : Int) - (P.length : Int) = ((cap - P.length : Nat) : Int) := by omega
      clear hblk hfr0 hout L1 hB M1 hLZ
      go_wp2_with fail
      refine HD.mono ?_
      rintro e w3 ⟨c3, Z3, hc3, rfl, ho3, hl3, hb3, hf3, hv3⟩
      have HX : Hid (BorrowDone bz zo n Z w (val P * m) (.returned (.int .u64 (c3 : Int))) w3) := by
        refine ⟨c3, Z3, hc3, rfl, ?_, hl3, hb3, (HF.out.trans (Fr.of_below ((Below.refl _ _).alloc (Nat.le_refl _) _))).trans hf3, ?_⟩
        · exact (HO.out.wider (Nat.le_refl _) (by omega)).trans (ho3.wider (by omega) (by omega))
        · obtain ⟨d, rfl⟩ : ∃ d, n = P.length + d := ⟨n - P.length, by omega⟩
          rw [Nat.add_sub_cancel_left] at hv3
          have e1 := HV.out
          have e2 := HO.out.sv (zo + P.length) d (by omega)
          have e3 := ho3.sv zo P.length (by omega)
          rw [sv_split Z3 zo P.length d (by rw [ho3.len, hl]; omega), sv_split Z zo P.length d (by omega), e3, Nat.pow_add]
          rw [e2] at hv3
          have e4 : val [cy] = cy := by simp [val]
          rw [e4] at hv3
          generalize sv Z' zo P.length = a at *
          generalize sv Z zo P.length = b at *
          generalize sv Z3 (zo + P.length) d = c at *
          generalize sv Z (zo + P.length) d = f at *
          generalize val P * m = g at *
          generalize (18446744073709551616 : Nat) ^ P.length = W at *
          generalize (18446744073709551616 : Nat) ^ d = V at *
          have h5 : W * (c + cy) = W * (f + c3 * V) := by rw [hv3]
          rw [Nat.mul_add, Nat.mul_add] at h5
          have h6 : W * cy = cy * W := Nat.mul_comm _ _
          have h7 : W * (c3 * V) = c3 * (W * V) := by rw [← Nat.mul_assoc, Nat.mul_comm W c3, Nat.mul_assoc]
          rw [h6, h7] at h5
          generalize W * c = x1 at *
          generalize cy * W = x2 at *
          generalize W * f = x3 at *
          generalize c3 * (W * V) = x4 at *
          omega
      clear ho3 hl3 hb3 hf3 hv3 HD
      go_wp2
      go_ret
      exact HX.out

end Go.Proofs.YtppblbhkghjphaaGreatDoor

/- Package div: shiftUp, shiftDown. -/
namespace Go.Proofs.YtppblbhkghjphaaGreatDoor
open Go.RowKit
open Lm
attribute [local go_sem ↓] Go.wp_at_zero Go.wp_at_succ

theorem seg_shl_step (Z' : List Nat) (X : List Nat) (o k cy s : Nat) (hs : s ≤ 64) (hz : o + k < Z'.length)
    (h : sv Z' o k + cy * 18446744073709551616 ^ k = val (X.take k) * 2 ^ s) :
    sv (Z'.set (o + k) (shl (X.getD k 0) s cy)) o (k + 1) + X.getD k 0 / 2 ^ (64 - s) * 18446744073709551616 ^ (k + 1) = val (X.take (k + 1)) * 2 ^ s := by
  have h2 := shl_split (X.getD k 0) s cy hs
  rw [sv_set_succ _ _ _ _ hz, val_take_next X k, show (18446744073709551616 : Nat) ^ (k + 1) = 18446744073709551616 ^ k * 18446744073709551616 from Nat.pow_succ ..]
  generalize sv Z' o k = A at *
  generalize X.getD k 0 / 2 ^ (64 - s) = C at *
  generalize shl (X.getD k 0) s cy = S at *
  generalize X.getD k 0 = x at *
  generalize val (X.take k) = B at *
  generalize 2 ^ s = E at *
  generalize (18446744073709551616 : Nat) ^ k = P at *
  generalize (18446744073709551616 : Nat) = W at *
  grind

/-- What shiftUp leaves. -/
def ShlDone (bz zo : Nat) (Z X : List Nat) (s : Nat) (w : World) (e : Ending) (w' : World) : Prop :=
  ∃ (cy : Nat) (Z' : List Nat), cy < 2 ^ s ∧ e = .returned (.int .u64 (cy : Int)) ∧ Out Z Z' zo (zo + X.length) ∧ Limbs Z' ∧ Blk w' bz Z' ∧ Fr bz w w' ∧ sv Z' zo X.length + cy * 18446744073709551616 ^ X.length = val X * 2 ^ s

set_option maxRecDepth 20000 in
set_option maxHeartbeats 1000000 in
theorem shiftUp_any (bz zo n cap : Nat) (Z : List Nat) (va : Value) (X : List Nat) (s : Nat) (w : World) (hB : Blk w bz Z) (hLZ : Limbs Z) (hA : Arg w va X) (ho : Off va bz zo (zo + n))
    (hzo : zo + n ≤ Z.length) (_hc1 : n ≤ cap) (_hc2 : cap ≤ 9223372036854775807) (hfit : X.length ≤ n) (hs : s < 64) :
    Calls Tryz.prog 69 #[.slice (some ⟨bz, zo, none⟩) n cap, va, .int .i64 s] w (ShlDone bz zo Z X s w) := by
  obtain ⟨a1, c1, rfl, hcc1, hcm1, hl1⟩ := hA.form
  have hX := hA.few
  have M1 := hA.limbs
  have hao : ∀ b off, a1 = some ⟨b, off, none⟩ → b ≠ bz ∨ off + X.length ≤ zo ∨ zo + n ≤ off := fun b off e => by
    subst e
    exact ho b off _ _ rfl
  have L1 := hl1
  clear ho hA hl1
  generalize X = P at *
  have HB0 := hide hB
  have HLZ := hide hLZ
  go_enter Tryz.func69, Tryz.ntmps69
  go_wp2
  go_loopw [7, 12] (fun c i wr => ∃ (k cy : Nat) (Z' : List Nat), k ≤ P.length ∧ i = .int .i64 k ∧ c = .int .u64 cy ∧ cy < 2 ^ s ∧ Out Z Z' zo (zo + k) ∧ Limbs Z' ∧ Blk wr bz Z' ∧ Fr bz w wr ∧
      sv Z' zo k + cy * 18446744073709551616 ^ k = val (P.take k) * 2 ^ s) (fun _ i _ => P.length - (intOf i).toNat)
  case atStart => exact ⟨0, 0, Z, Nat.zero_le _, rfl, rfl, Nat.two_pow_pos _, Out.refl _ _ _, HLZ.out, HB0.out, Fr.refl _ _, by simp [sv_zero, val]⟩
  case round =>
    obtain ⟨k, cy, Z', hk, rfl, rfl, hcy, hout, hlz, hblk, hfr0, hval⟩ := hrel
    have HV := hide hval
    have HB := hide hblk
    have HF := hide hfr0
    have HO := hide hout
    have HCY := hide hcy
    have hl := hout.len
    clear hval
    by_cases hkl : k < P.length
    · rcases L1.fr hao hfr0 hB hblk (hout.wider (Nat.le_refl _) (by omega)) with h0 | ⟨b, off, rfl, hcell⟩
      · rw [h0] at hkl; simp at hkl
      · have hck := hcell k hkl
        have hfr := hblk.free (zo + k)
        have hco := hblk.cell (zo + k) (by omega)
        have z1 := limb_lt M1 k
        have HS := hide (seg_shl_step Z' P zo k cy s (by omega) (by omega) HV.out)
        generalize Z'.getD (zo + k) 0 = z at *
        generalize P.getD k 0 = x at *
        clear hcell hblk hfr0 hout HV M1 L1 hB hLZ hcy
        go_wp2
        go_roundw
        case rel =>
          rw [walk_shl x s cy (by omega) HCY.out, walk_shr]
          exact ⟨k + 1, x / 2 ^ (64 - s), Z'.set (zo + k) (shl x s cy), by omega, by go_num, rfl, shr_lt x s (by omega) z1, (HO.out.wider (Nat.le_refl _) (by omega)).set _ _ (by omega) (by omega), limbs_set hlz _ _ (shl_lt x s cy (by omega) HCY.out), HB.out.set _ _, HF.out.setCell _ _, HS.out⟩
        case measure => simp [intOf]; omega
    · have ek : k = P.length := by omega
      subst ek
      rw [List.take_length] at HV
      clear hblk hfr0 hout L1 hB M1 hLZ hl hcy
      go_wp2
      go_ret
      exact ⟨cy, Z', HCY.out, rfl, HO.out, hlz, HB.out, HF.out, HV.out⟩

/-- One limb of a right shift, from the top down. -/
theorem shr_top (X : List Nat) (s j : Nat) (hs : s < 64) (hj : j < X.length) :
    shr (X.getD j 0) (X.getD (j + 1) 0) s + 18446744073709551616 * (val (X.drop (j + 1)) / 2 ^ s) = val (X.drop j) / 2 ^ s := by
  have h1 := val_drop_next X j hj
  have h2 : val (X.drop (j + 1)) % 2 ^ s = X.getD (j + 1) 0 % 2 ^ s := by
    by_cases hj2 : j + 1 < X.length
    · rw [val_drop_next X (j + 1) hj2, two64 s (by omega), Nat.mul_comm (2 ^ (64 - s)), Nat.mul_assoc, Nat.add_mul_mod_self_left]
    · have e1 : X.drop (j + 1) = [] := List.drop_eq_nil_of_le (by omega)
      have e2 : X.getD (j + 1) 0 = 0 := by simp [List.getD, Nat.le_of_not_lt hj2]
      rw [e1, e2]; simp [val]
  have h3 := Nat.div_add_mod (val (X.drop (j + 1))) (2 ^ s)
  unfold shr
  rw [h1, ← h2]
  have hW := two64 s (by omega)
  have hp := Nat.two_pow_pos s
  have hp2 := Nat.two_pow_pos (64 - s)
  generalize X.getD j 0 = x at *
  generalize val (X.drop (j + 1)) % 2 ^ s = r at *
  generalize val (X.drop (j + 1)) / 2 ^ s = q at *
  generalize val (X.drop (j + 1)) = S at *
  rw [← h3, hW]
  generalize 2 ^ (64 - s) = E at *
  generalize 2 ^ s = D at *
  have e : x + E * D * (D * q + r) = x + D * (r * E + E * D * q) := by grind
  rw [e, Nat.add_mul_div_left _ _ hp]
  omega

set_option maxRecDepth 20000 in
set_option maxHeartbeats 1000000 in
theorem shiftDown_any (bz zo n cap : Nat) (Z : List Nat) (va : Value) (X : List Nat) (s : Nat) (w : World) (hB : Blk w bz Z) (hLZ : Limbs Z) (hA : Arg w va X) (ho : Off va bz zo (zo + n))
    (hzo : zo + n ≤ Z.length) (_hc1 : n ≤ cap) (_hc2 : cap ≤ 9223372036854775807) (hn : X.length ≤ n) (hn2 : n ≤ X.length) (hs : s < 64) :
    Calls Tryz.prog 72 #[.slice (some ⟨bz, zo, none⟩) n cap, va, .int .i64 s] w (IntoDone bz zo n Z w (val X / 2 ^ s)) := by
  obtain ⟨a1, c1, rfl, hcc1, hcm1, hl1⟩ := hA.form
  have hX := hA.few
  have M1 := hA.limbs
  have hao : ∀ b off, a1 = some ⟨b, off, none⟩ → b ≠ bz ∨ off + X.length ≤ zo ∨ zo + n ≤ off := fun b off e => by
    subst e
    exact ho b off _ _ rfl
  have L1 := hl1
  clear ho hA hl1
  have HB0 := hide hB
  have HLZ := hide hLZ
  have ec : (64 : Int) - (s : Int) = ((64 - s : Nat) : Int) := by omega
  go_enter Tryz.func72, Tryz.ntmps72
  go_wp2
  go_loopw [6, 7] (fun c i wr => ∃ (k : Nat) (Z' : List Nat), k ≤ X.length ∧ i = .int .i64 ((k : Int) - 1) ∧ c = .int .u64 (IntKind.u64.wrap (((X.getD k 0 : Nat) : Int) * 2 ^ (64 - s))) ∧ Out Z Z' (zo + k) (zo + n) ∧ Limbs Z' ∧ Blk wr bz Z' ∧ Fr bz w wr ∧
      sv Z' (zo + k) (n - k) = val (X.drop k) / 2 ^ s) (fun _ i _ => (intOf i + 1).toNat)
  case atStart =>
    have e0 : X.getD X.length 0 = 0 := by simp [List.getD]
    refine ⟨X.length, Z, Nat.le_refl _, by go_num, ?_, Out.refl _ _ _, HLZ.out, HB0.out, Fr.refl _ _, ?_⟩
    · rw [e0]; simp [IntKind.wrap_u64]
    · have : n - X.length = 0 := by omega
      rw [this, sv_zero, List.drop_length]; simp [val]
  case round =>
    obtain ⟨k, Z', hk, rfl, rfl, hout, hlz, hblk, hfr0, hval⟩ := hrel
    have hl := hout.len
    by_cases hk0 : k = 0
    · subst hk0
      rw [Nat.add_zero, Nat.sub_zero, List.drop_zero] at hval
      have HD : Hid (Out Z Z' zo (zo + n) ∧ Limbs Z' ∧ Blk wr bz Z' ∧ Fr bz w wr ∧ sv Z' zo n = val X / 2 ^ s) := hide ⟨by simpa using hout, hlz, hblk, hfr0, hval⟩
      generalize IntKind.u64.wrap (((X.getD 0 0 : Nat) : Int) * 2 ^ (64 - s)) = cy at *
      clear hout hlz hblk hfr0 hval L1 hB
      go_wp2
      go_end0
      exact ⟨rfl, Z', HD.out⟩
    · obtain ⟨j, rfl⟩ : ∃ j, k = j + 1 := ⟨k - 1, by omega⟩
      rcases L1.fr hao hfr0 hB hblk (hout.wider (by omega) (Nat.le_refl _)) with h0 | ⟨b, off, rfl, hcell⟩
      · rw [h0] at hk; simp at hk
      · have hck := hcell j (by omega)
        have hst := shr_top X s j hs (by omega)
        have hcons' : ∀ t, sv (Z'.set (zo + j) t) (zo + j) (n - j) = t + 18446744073709551616 * sv Z' (zo + (j + 1)) (n - (j + 1)) := fun t => by
          rw [sv_cons (Z'.set (zo + j) t) zo j n (by simp; omega) (by omega), getD_set, if_pos ⟨rfl, by omega⟩]
          have e : Out Z' (Z'.set (zo + j) t) (zo + j) (zo + (j + 1)) := (Out.refl _ _ _).set _ _ (by omega) (by omega)
          rw [e.sv (zo + (j + 1)) (n - (j + 1)) (by omega)]
        have hfr := hblk.free (zo + j)
        have hco := hblk.cell (zo + j) (by omega)
        have z1 := limb_lt M1 j
        have HS := hide (hcons' (shr (X.getD j 0) (X.getD (j + 1) 0) s))
        rw [hval, hst] at HS
        have hor := walk_shr2 (X.getD j 0) (X.getD (j + 1) 0) s hs z1
        have hsl := shr_lt2 (X.getD j 0) (X.getD (j + 1) 0) s hs z1
        generalize shr (X.getD j 0) (X.getD (j + 1) 0) s = sh at *
        generalize IntKind.u64.wrap (((X.getD (j + 1) 0 : Nat) : Int) * 2 ^ (64 - s)) = cy at *
        have HXJ : Hid (X.getD j 0 = X.getD j 0) := rfl
        generalize hxj : X.getD j 0 = x at *
        have HX := hide hxj
        clear hxj HXJ
        generalize Z'.getD (zo + j) 0 = z at *
        have ej : (((j + 1 : Nat) : Int) - 1) = (j : Int) := by omega
        rw [ej]
        have HB := hide hblk
        have HF := hide hfr0
        have HO := hide hout
        clear hblk hfr0 hout ej hcell hcons' hst hval L1 hB M1
        have hi1 : (0 : Int) ≤ (j : Int) := by omega
        have hi2 : (j : Int) < (n : Int) := by omega
        have hi3 : (j : Int) < (X.length : Int) := by omega
        go_wp2
        go_roundw
        case rel =>
          exact ⟨j, Z'.set (zo + j) sh, by omega, rfl, by rw [HX.out], (HO.out.wider (by omega) (Nat.le_refl _)).set _ _ (Nat.le_refl _) (by omega), limbs_set hlz _ _ hsl, HB.out.set _ sh, HF.out.setCell _ _, HS.out⟩
        case measure => simp [intOf]

end Go.Proofs.YtppblbhkghjphaaGreatDoor

/- Package div: limb, firstGuess, guess. -/
namespace Go.Proofs.YtppblbhkghjphaaGreatDoor
open Go.RowKit
open Lm
attribute [local go_sem ↓] Go.wp_at_zero Go.wp_at_succ

/-- A limb at any place, below 0 too. -/
def limbI (X : List Nat) (i : Int) : Nat := if i < 0 then 0 else X.getD i.toNat 0

theorem limbI_lt {X : List Nat} (h : Limbs X) (i : Int) : limbI X i < 18446744073709551616 := by
  unfold limbI
  split
  · omega
  · exact limb_lt h _

theorem dlimb_any (ao : Option Addr) (cap : Nat) (X : List Nat) (i : Int) (w : World) (hX : X.length ≤ 1125899906842624) (hi1 : -9223372036854775808 ≤ i) (hi2 : i ≤ 9223372036854775807) (hl : Lies w ao X) :
    Calls Tryz.prog 112 #[.slice ao X.length cap, .int .i64 i] w fun e w' => e = .returned (.int .u64 ((limbI X i : Nat) : Int)) ∧ w' = w := by
  by_cases h0 : i < 0
  · have e : limbI X i = 0 := if_pos h0
    rw [e]
    clear hl
    go_enter Tryz.func112, Tryz.ntmps112
    go_wp2
    go_ret
    exact ⟨rfl, rfl⟩
  · obtain ⟨n, rfl⟩ : ∃ n : Nat, i = (n : Int) := ⟨i.toNat, by omega⟩
    have e : limbI X (n : Int) = X.getD n 0 := by unfold limbI; rw [if_neg h0, Int.toNat_natCast]
    rw [e]
    by_cases hn : n < X.length
    · rcases hl with rfl | ⟨b, off, rfl, hc⟩
      · simp at hn
      · have hci := hc n hn
        clear hc e
        have i1 : (n : Int) < (X.length : Int) := by omega
        generalize X.getD n 0 = z at hci ⊢
        go_enter Tryz.func112, Tryz.ntmps112
        go_wp2
        go_ret
        exact ⟨rfl, rfl⟩
    · have e2 : X.getD n 0 = 0 := by simp [List.getD, Nat.le_of_not_lt hn]
      rw [e2]
      have i1 : (X.length : Int) ≤ (n : Int) := by omega
      clear hl e e2
      go_enter Tryz.func112, Tryz.ntmps112
      go_wp2
      go_ret
      exact ⟨rfl, rfl⟩

theorem firstGuess_any (hi lo top : Nat) (w : World) (hh : hi ≤ top) (hlo : lo < 18446744073709551616) (ht : top < 18446744073709551616) (_ht0 : 0 < top) :
    Calls Tryz.prog 113 #[.int .u64 hi, .int .u64 lo, .int .u64 top] w fun e w' => (∃ q r o : Nat, e = .returned (.tuple #[.int .u64 q, .int .u64 r, .int .u64 o]) ∧ q < 18446744073709551616 ∧ r < 18446744073709551616 ∧ o ≤ 1 ∧
      q * top + (r + o * 18446744073709551616) = hi * 18446744073709551616 + lo ∧ ((hi * 18446744073709551616 + lo) / top ≤ q ∨ q = 18446744073709551615)) ∧ Same w w' := by
  by_cases h : hi < top
  · have HD := div64_any hi lo top w ht h hlo
    have h1 := Nat.div_add_mod (hi * 18446744073709551616 + lo) top
    have h2 : (hi * 18446744073709551616 + lo) / top < 18446744073709551616 := by
      rw [Nat.div_lt_iff_lt_mul _ht0]
      have := Nat.mul_le_mul_right 18446744073709551616 (Nat.succ_le_of_lt h)
      rw [Nat.mul_comm 18446744073709551616 top]
      omega
    have h3 := Nat.mod_lt (hi * 18446744073709551616 + lo) _ht0
    rw [Nat.mul_comm top] at h1
    have HQ : Hid ((hi * 18446744073709551616 + lo) / top * top + (hi * 18446744073709551616 + lo) % top = hi * 18446744073709551616 + lo) := h1
    have HL : Hid ((hi * 18446744073709551616 + lo) / top ≤ (hi * 18446744073709551616 + lo) / top) := Nat.le_refl _
    clear h1
    obtain ⟨q, eq, r, er⟩ : ∃ q, Hid ((hi * 18446744073709551616 + lo) / top = q) ∧ ∃ r, Hid ((hi * 18446744073709551616 + lo) % top = r) := ⟨_, hide rfl, _, hide rfl⟩
    rw [eq.out, er.out] at HD HQ
    rw [eq.out] at h2 HL
    rw [er.out] at h3
    go_enter Tryz.func113, Tryz.ntmps113
    go_wp2_with fail
    refine HD.mono ?_
    rintro e w2 ⟨rfl, hs⟩
    have HS := hide hs
    clear hs HD
    go_wp2
    go_ret3
    exact ⟨⟨q, r, 0, rfl, h2, by omega, by omega, by have := HQ.out; omega, .inl (by rw [eq.out]; exact Nat.le_refl _)⟩, HS.out⟩
  · have ha := add64_0 lo top
    have hc : ¬ ((hi : Int) < (top : Int)) := by omega
    have e1 : (lo + top) % 18446744073709551616 + (lo + top) / 18446744073709551616 * 18446744073709551616 = lo + top := by omega
    have e2 : (lo + top) / 18446744073709551616 ≤ 1 := by omega
    have e3 : (lo + top) % 18446744073709551616 < 18446744073709551616 := by omega
    have HE := hide e1
    clear e1
    generalize (lo + top) % 18446744073709551616 = s at *
    generalize (lo + top) / 18446744073709551616 = c at *
    go_enter Tryz.func113, Tryz.ntmps113
    go_wp2
    go_ret3
    exact ⟨⟨18446744073709551615, s, c, rfl, by omega, e3, e2, by have := HE.out; omega, .inr rfl⟩, Same.refl _⟩

end Go.Proofs.YtppblbhkghjphaaGreatDoor

/- Package div: guess. -/
namespace Go.Proofs.YtppblbhkghjphaaGreatDoor
open Go.RowKit
open Lm
attribute [local go_sem ↓] Go.wp_at_zero Go.wp_at_succ

theorem tops_of (U V : List Nat) (j : Nat) (hU : Limbs U) (hV : Limbs V) (lV : V.length = j + 1) (lU : U.length = j + 2) :
    Tops (val U) (val V) (U.getD (j + 1) 0 * 18446744073709551616 + U.getD j 0) (limbI U ((j : Int) - 1)) (V.getD j 0) (limbI V ((j : Int) - 1)) := by
  refine ⟨?_, limbI_lt hU _, limbI_lt hV _⟩
  cases j with
  | zero =>
    refine ⟨18446744073709551616, 1, 0, 0, by omega, by omega, by omega, by omega, ?_, ?_⟩
    · have h1 := val_drop_next U 0 (by omega)
      have h2 := val_drop_next U 1 (by omega)
      have h3 : U.drop 2 = [] := List.drop_eq_nil_of_le (by omega)
      have h4 : limbI U (((0 : Nat) : Int) - 1) = 0 := by simp [limbI]
      rw [h3] at h2
      simp only [List.drop_zero, val, Nat.zero_add] at h1 h2
      rw [h4, h1, h2, Nat.zero_add]
      omega
    · have h1 := val_drop_next V 0 (by omega)
      have h3 : V.drop 1 = [] := List.drop_eq_nil_of_le (by omega)
      have h4 : limbI V (((0 : Nat) : Int) - 1) = 0 := by simp [limbI]
      simp only [List.drop_zero, Nat.zero_add, h3, val] at h1
      rw [h4, h1]
      omega
  | succ i =>
    refine ⟨1, 18446744073709551616 ^ i, val (U.take i), val (V.take i), by omega, Nat.pow_pos (by omega), val_take_lt hU i, val_take_lt hV i, ?_, ?_⟩
    · have h0 := val_parts U i (by omega)
      have h1 := val_drop_next U i (by omega)
      have h2 := val_drop_next U (i + 1) (by omega)
      have h5 := val_drop_next U (i + 2) (by omega)
      have h3 : U.drop (i + 3) = [] := List.drop_eq_nil_of_le (by omega)
      have h4 : limbI U (((i + 1 : Nat) : Int) - 1) = U.getD i 0 := by
        unfold limbI
        rw [if_neg (by omega)]
        congr 1
        omega
      rw [show i + 2 + 1 = i + 3 from rfl, h3] at h5
      rw [show i + 1 + 1 = i + 2 from rfl] at h2
      have h6 : val ([] : List Nat) = 0 := rfl
      rw [h6, Nat.mul_zero, Nat.add_zero] at h5
      rw [h4, h0, h1, h2, h5, show i + 1 + 1 = i + 2 from rfl]
      generalize val (U.take i) = a
      generalize U.getD i 0 = b
      generalize U.getD (i + 1) 0 = c
      generalize U.getD (i + 2) 0 = d
      generalize (18446744073709551616 : Nat) ^ i = E
      generalize (18446744073709551616 : Nat) = W
      grind
    · have h0 := val_parts V i (by omega)
      have h1 := val_drop_next V i (by omega)
      have h2 := val_drop_next V (i + 1) (by omega)
      have h3 : V.drop (i + 2) = [] := List.drop_eq_nil_of_le (by omega)
      have h4 : limbI V (((i + 1 : Nat) : Int) - 1) = V.getD i 0 := by
        unfold limbI
        rw [if_neg (by omega)]
        congr 1
        omega
      rw [show i + 1 + 1 = i + 2 from rfl, h3] at h2
      have h6 : val ([] : List Nat) = 0 := rfl
      rw [h6, Nat.mul_zero, Nat.add_zero] at h2
      rw [h4, h0, h1, h2]
      generalize val (V.take i) = a
      generalize V.getD i 0 = b
      generalize V.getD (i + 1) 0 = c
      generalize (18446744073709551616 : Nat) ^ i = E
      generalize (18446744073709551616 : Nat) = W
      grind

theorem tops_high {U V uh ul u3 top next : Nat} (h : Tops U V (uh * 18446744073709551616 + ul) u3 top next) (huv : U < V * 18446744073709551616) : uh ≤ top := by
  obtain ⟨k, E, a, b, hk, hE, ha, hb, eU, eV⟩ := h.ex
  have hn := h.next
  clear h
  refine Nat.le_of_not_lt fun hlt => ?_
  have h1 : k * U < k * (V * 18446744073709551616) := Nat.mul_lt_mul_of_pos_left huv hk
  rw [← Nat.mul_assoc, eU, eV] at h1
  have h2 : top * 18446744073709551616 + next + 1 ≤ (top + 1) * 18446744073709551616 := by omega
  have h3 : (top + 1) * 18446744073709551616 ≤ uh * 18446744073709551616 + ul := by omega
  clear hn huv
  generalize (18446744073709551616 : Nat) = W at *
  generalize top * W + next = V2 at *
  generalize uh * W + ul = U2 at *
  have h4 : (V2 + 1) * E * W ≤ U2 * E * W := Nat.mul_le_mul_right _ (Nat.mul_le_mul_right _ (by omega))
  have h5 : (V2 * E + b) * W ≤ (V2 + 1) * E * W := Nat.mul_le_mul_right _ (by rw [Nat.add_mul]; omega)
  have h6 : U2 * E * W ≤ (U2 * W + u3) * E + a := by
    have : (U2 * W + u3) * E = U2 * E * W + u3 * E := by grind
    omega
  omega

set_option maxRecDepth 20000 in
set_option maxHeartbeats 1000000 in
theorem guess_any (vu vv : Value) (U V : List Nat) (j : Nat) (w : World) (hU : Arg w vu U) (hV : Arg w vv V) (lV : V.length = j + 1) (lU : U.length = j + 2)
    (ht : 9223372036854775808 ≤ V.getD j 0) (huv : val U < val V * 18446744073709551616) :
    Calls Tryz.prog 102 #[vu, vv] w fun e w' => (∃ q : Nat, e = .returned (.int .u64 q) ∧ q < 18446744073709551616 ∧ (q = val U / val V ∨ q = val U / val V + 1)) ∧ Same w w' := by
  have hT := tops_of U V j hU.limbs hV.limbs lV lU
  have hh := tops_high hT huv
  have HT := hide hT
  have hvp : 0 < val V := by
    rcases Nat.eq_zero_or_pos (val V) with h | h
    · rw [h] at huv; omega
    · exact h
  have HQ : Hid (val U / val V < 18446744073709551616 ∧ val U / val V * val V ≤ val U) := ⟨by rw [Nat.div_lt_iff_lt_mul hvp, Nat.mul_comm]; exact huv, Nat.div_mul_le_self _ _⟩
  have HVP := hide hvp
  have hXU := hU.few
  have hXV := hV.few
  have z1 := limb_lt hU.limbs (j + 1)
  have z2 := limb_lt hU.limbs j
  have z3 := limb_lt hV.limbs j
  have z4 := limbI_lt hU.limbs ((j : Int) - 1)
  have z5 := limbI_lt hV.limbs ((j : Int) - 1)
  obtain ⟨a1, c1, rfl, hcc1, hcm1, hl1⟩ := hU.form
  obtain ⟨a2, c2, rfl, hcc2, hcm2, hl2⟩ := hV.form
  have e2 : (V.length : Int) - 2 = (j : Int) - 1 := by omega
  have DU : Hid (∀ w', Same w w' → Calls Tryz.prog 112 #[.slice a1 U.length c1, .int .i64 ((j : Int) - 1)] w' fun e w'' => e = .returned (.int .u64 ((limbI U ((j : Int) - 1) : Nat) : Int)) ∧ w'' = w') := fun w' h => dlimb_any a1 c1 U ((j : Int) - 1) w' hXU (by omega) (by omega) (hl1.below (h.below _))
  have D2 := fun n => dlimb_any a2 c2 V ((j : Int) - 1) (w.drewN n) hXV (by omega) (by omega) (hl2.below (((Same.refl w).drewN n).below _))
  rcases hl1 with h0 | ⟨b, off, rfl, hcell⟩
  · rw [h0] at lU; simp at lU
  rcases hl2 with h0 | ⟨b2, off2, rfl, hcell2⟩
  · rw [h0] at lV; simp at lV
  have r1 : w.cell? ⟨b, off + V.length, none⟩ = some (.int .u64 ((U.getD (j + 1) 0 : Nat) : Int)) := by rw [lV]; exact hcell (j + 1) (by omega)
  have r2 := hcell j (by omega)
  have r3 := hcell2 j (by omega)
  have e1 : (V.length : Int) - 1 = (j : Int) := by omega
  have k1 : V.length < U.length := by omega
  have k2 : j < V.length := by omega
  have k3 : (V.length : Int) < (U.length : Int) := by omega
  have k4 : (j : Int) < (V.length : Int) := by omega
  have k5 : (j : Int) < (U.length : Int) := by omega
  have k7 : (0 : Int) ≤ (j : Int) := by omega
  have wj : IntKind.i64.wrap (j : Int) = (j : Int) := by rw [IntKind.wrap_i64]; omega
  have k8 : j < U.length := by omega
  have k6 : V.length ≤ 1125899906842624 := hXV
  clear hcell hcell2 hU hV
  have HLV := hide (And.intro lV lU)
  clear lV lU
  generalize hE1 : limbI V ((j : Int) - 1) = next at *
  generalize hE2 : limbI U ((j : Int) - 1) = u3 at *
  generalize hE3 : U.getD (j + 1) 0 = uh at *
  generalize hE4 : U.getD j 0 = ul at *
  generalize hE5 : V.getD j 0 = top at *
  clear hE1 hE2 hE3 hE4 hE5 hT
  go_enter Tryz.func102, Tryz.ntmps102
  go_wp2
  go_quiet (first | (go_at_call 112; exact (D2 _).mono (fun _ _ h => ⟨h.1, _, h.2⟩)))
  have FG := fun w' => firstGuess_any uh ul top w' hh z2 z3 (by omega)
  obtain ⟨w1, hw1⟩ : ∃ w1, w1 = w.drewN nq := ⟨_, rfl⟩
  have S1 := hide (show Same w w1 by rw [hw1]; exact (Same.refl _).drewN _)
  replace r1 : w1.cell? ⟨b, off + V.length, none⟩ = some (.int .u64 (uh : Int)) := by rw [hw1]; exact r1
  replace r2 : w1.cell? ⟨b, off + j, none⟩ = some (.int .u64 (ul : Int)) := by rw [hw1]; exact r2
  have KC : Hid (∀ w', Same w1.drew w' → w'.cell? ⟨b, off + V.length, none⟩ = some (.int .u64 (uh : Int)) ∧ w'.cell? ⟨b, off + j, none⟩ = some (.int .u64 (ul : Int))) := fun w' h => by
    have hh : w'.heap = w1.heap := h.heap
    refine ⟨?_, ?_⟩
    · rw [← r1]; simp only [World.cell?, hh]
    · rw [← r2]; simp only [World.cell?, hh]
  rw [← hw1]
  clear hw1 D2 r3
  go_wp2
  go_region_held3 (fun w' => w'.cell? ⟨b, off + V.length, none⟩ = some (.int .u64 uh) ∧ w'.cell? ⟨b, off + j, none⟩ = some (.int .u64 ul)) (go_keep) (first | (go_at_call 113; refine (FG _).mono ?_; rintro e w2 ⟨⟨q, r, o, rfl, hq, hr, ho, hqe, hql⟩, hs⟩; obtain ⟨g1, g2⟩ := KC.out w2 hs))
  have S2 := hide (S1.out.drew.trans hs)
  have HI : Hid (val U / val V ≤ q) := by
    rcases hql with h | h
    · have h1 := HT.out.first HQ.out.2
      have h2 : val U / val V ≤ (uh * 18446744073709551616 + ul) / top := (Nat.le_div_iff_mul_le (by omega)).2 h1
      exact Nat.le_trans h2 h
    · have := HQ.out.1
      show val U / val V ≤ q
      omega
  have HE := hide hqe
  clear hqe hql hs S1 KC g1 g2 r1 r2 FG
  go_wp2
  go_loopw [8, 9, 10] (fun a b c wr => ∃ q r o : Nat, a = .int .u64 q ∧ b = .int .u64 r ∧ c = .int .u64 o ∧ q < 18446744073709551616 ∧ r < 18446744073709551616 ∧ o ≤ 1 ∧ q * top + (r + o * 18446744073709551616) = uh * 18446744073709551616 + ul ∧ val U / val V ≤ q ∧ Same w wr) (fun a _ _ _ => (intOf a).toNat)
  case atStart => exact ⟨q, r, o, rfl, rfl, rfl, hq, hr, ho, HE.out, HI.out, S2.out⟩
  case round =>
    clear S2 HE HI hq hr ho
    obtain ⟨q, r, o, rfl, rfl, rfl, hq, hr, ho, hqe, hql, hs⟩ := hrel
    have HS := hide hs
    have HE := hide hqe
    have HI := hide hql
    have DL := DU.out wr hs
    have hmx : q * next < 18446744073709551616 * 18446744073709551616 := by
      rcases Nat.eq_zero_or_pos next with h | h
      · rw [h]; omega
      · exact Nat.mul_lt_mul_of_lt_of_lt hq z5
    have hsplit : q * (top * 18446744073709551616 + next) = q * top * 18446744073709551616 + q * next := by rw [Nat.mul_add, Nat.mul_assoc]
    by_cases ho0 : o = 0
    · subst ho0
      have hM := Tryz.bits_Mul64 q next hq z5 wr
      have hPd : q * next / 18446744073709551616 * 18446744073709551616 + q * next % 18446744073709551616 = q * next := by omega
      have hPh : q * next / 18446744073709551616 < 18446744073709551616 := by omega
      have hPl : q * next % 18446744073709551616 < 18446744073709551616 := by omega
      have hqe2 : q * top + r = uh * 18446744073709551616 + ul := by omega
      have HUP : Hid (q * next ≤ r * 18446744073709551616 + u3 → q = val U / val V ∨ q = val U / val V + 1) := fun hle => by
        refine guess_end HVP.out HI.out (HT.out.up hq ht ?_)
        rw [hsplit]
        omega
      have HDN : Hid (r * 18446744073709551616 + u3 < q * next → val U / val V < q) := fun hlt => HT.out.down HQ.out.2 hqe2 hlt
      have HQ2 := hide hqe2
      clear hqe hql hsplit hmx hqe2 HE
      generalize hPP : q * next = PP at *
      clear hPP
      obtain ⟨h, hh1⟩ : ∃ h, PP / 18446744073709551616 = h := ⟨_, rfl⟩
      obtain ⟨l, hl1⟩ : ∃ l, PP % 18446744073709551616 = l := ⟨_, rfl⟩
      rw [hh1] at hPd hPh hM
      rw [hl1] at hPd hPl hM
      clear hh1 hl1
      have HPD := hide hPd
      clear hPd
      by_cases c1 : h < r
      · have HEND := hide (HUP.out (by have := HPD.out; omega))
        have i1 : (h : Int) < (r : Int) := by omega
        clear HUP HDN DL hs
        go_wp2_with fail
        refine hM.mono ?_
        rintro e w3 ⟨rfl, rfl⟩
        clear hM
        go_wp2
        go_ret
        exact ⟨⟨q, rfl, hq, HEND.out⟩, HS.out⟩
      · have i1 : ¬ ((h : Int) < (r : Int)) := by omega
        by_cases c2 : h = r
        · have i2 : ((h : Int) == (r : Int)) = true := by rw [beq_iff_eq]; omega
          by_cases c3 : l ≤ u3
          · have HEND := hide (HUP.out (by have := HPD.out; rw [c2] at this; omega))
            have i3 : (l : Int) ≤ (u3 : Int) := by omega
            have HC2 := hide c2
            clear HUP HDN hs c2
            go_wp2_with fail
            refine hM.mono ?_
            rintro e w3 ⟨rfl, rfl⟩
            clear hM
            go_wp2_with fail
            refine DL.mono ?_
            rintro e w3 ⟨rfl, rfl⟩
            clear DL
            go_wp2
            go_ret
            exact ⟨⟨q, rfl, hq, HEND.out⟩, HS.out⟩
          · have HD := hide (HDN.out (by have := HPD.out; rw [c2] at this; omega))
            have i3 : ¬ ((l : Int) ≤ (u3 : Int)) := by omega
            have HC2 := hide c2
            clear HUP HDN hs c2
            have ha := add64_0 r top
            have hq1 : 1 ≤ q := Nat.succ_le_of_lt (Nat.lt_of_le_of_lt (Nat.zero_le _) HD.out)
            have HSUM : Hid ((q - 1) * top + ((r + top) % 18446744073709551616 + (r + top) / 18446744073709551616 * 18446744073709551616) = uh * 18446744073709551616 + ul) := by
              refine hide ?_
              have e1 := HQ2.out
              have e2 : (q - 1) * top + top = q * top := by
                have : q - 1 + 1 = q := by omega
                rw [← this, Nat.add_mul, Nat.one_mul]
                simp
              have e3 : (r + top) % 18446744073709551616 + (r + top) / 18446744073709551616 * 18446744073709551616 = r + top := by omega
              rw [e3]
              generalize (q - 1) * top = x1 at *
              generalize q * top = x2 at *
              omega
            have y1 : (r + top) % 18446744073709551616 < 18446744073709551616 := by omega
            have y2 : (r + top) / 18446744073709551616 ≤ 1 := by omega
            generalize (r + top) % 18446744073709551616 = r2 at *
            generalize (r + top) / 18446744073709551616 = o2 at *
            have eq1 : (q : Int) - 1 = ((q - 1 : Nat) : Int) := by omega
            have HQL : Hid (val U / val V ≤ q - 1 ∧ q - 1 < q) := ⟨Nat.le_sub_one_of_lt HD.out, by omega⟩
            have hq2 : q - 1 < 18446744073709551616 := by omega
            obtain ⟨q2, hq2e⟩ : ∃ q2, q - 1 = q2 := ⟨_, rfl⟩
            rw [hq2e] at eq1 HSUM HQL hq2
            clear hq2e
            go_wp2_with fail
            refine hM.mono ?_
            rintro e w3 ⟨rfl, rfl⟩
            clear hM
            go_wp2_with fail
            refine DL.mono ?_
            rintro e w3 ⟨rfl, rfl⟩
            clear DL
            go_wp2
            go_roundw
            case rel => exact ⟨q2, r2, o2, rfl, rfl, rfl, hq2, y1, y2, HSUM.out, HQL.out.1, HS.out⟩
            case measure => have := HQL.out.2; simp [intOf]; omega
        · have hrh : r * 18446744073709551616 + u3 < PP := by
            have hp := HPD.out
            have hrh1 : r + 1 ≤ h := by omega
            omega
          have HD := hide (HDN.out hrh)
          clear hrh
          have i2 : ((h : Int) == (r : Int)) = false := by rw [beq_eq_false_iff_ne]; omega
          clear HUP HDN hs DL
          have ha := add64_0 r top
          have hq1 : 1 ≤ q := Nat.succ_le_of_lt (Nat.lt_of_le_of_lt (Nat.zero_le _) HD.out)
          have HSUM : Hid ((q - 1) * top + ((r + top) % 18446744073709551616 + (r + top) / 18446744073709551616 * 18446744073709551616) = uh * 18446744073709551616 + ul) := by
            refine hide ?_
            have e1 := HQ2.out
            have e2 : (q - 1) * top + top = q * top := by
              have : q - 1 + 1 = q := by omega
              rw [← this, Nat.add_mul, Nat.one_mul]
              simp
            have e3 : (r + top) % 18446744073709551616 + (r + top) / 18446744073709551616 * 18446744073709551616 = r + top := by omega
            rw [e3]
            generalize (q - 1) * top = x1 at *
            generalize q * top = x2 at *
            omega
          have y1 : (r + top) % 18446744073709551616 < 18446744073709551616 := by omega
          have y2 : (r + top) / 18446744073709551616 ≤ 1 := by omega
          generalize (r + top) % 18446744073709551616 = r2 at *
          generalize (r + top) / 18446744073709551616 = o2 at *
          have eq1 : (q : Int) - 1 = ((q - 1 : Nat) : Int) := by omega
          have HQL : Hid (val U / val V ≤ q - 1 ∧ q - 1 < q) := ⟨Nat.le_sub_one_of_lt HD.out, by omega⟩
          have hq2 : q - 1 < 18446744073709551616 := by omega
          obtain ⟨q2, hq2e⟩ : ∃ q2, q - 1 = q2 := ⟨_, rfl⟩
          rw [hq2e] at eq1 HSUM HQL hq2
          clear hq2e
          go_wp2_with fail
          refine hM.mono ?_
          rintro e w3 ⟨rfl, rfl⟩
          clear hM
          go_wp2
          go_roundw
          case rel => exact ⟨q2, r2, o2, rfl, rfl, rfl, hq2, y1, y2, HSUM.out, HQL.out.1, HS.out⟩
          case measure => have := HQL.out.2; simp [intOf]; omega
    · have HEND : Hid (q = val U / val V ∨ q = val U / val V + 1) := by
        refine guess_end HVP.out HI.out (HT.out.up hq ht ?_)
        rw [hsplit]
        have e : o = 1 := by omega
        subst e
        omega
      have hne : ((o : Int) == 0) = false := by rw [beq_eq_false_iff_ne]; omega
      clear hqe hql hs DL hsplit hmx
      go_wp2
      go_ret
      exact ⟨⟨q, rfl, hq, HEND.out⟩, HS.out⟩

end Go.Proofs.YtppblbhkghjphaaGreatDoor

/- Package div: byLimbs, its plain facts. -/
namespace Go.Proofs.YtppblbhkghjphaaGreatDoor
open Go.RowKit
open Lm

/-- Only two blocks, and new memory, have turned. -/
structure Fr2 (b1 b2 : Nat) (w w' : World) : Prop where
  os : w'.os = w.os
  tape : w'.tape = w.tape
  output : w'.output = w.output
  size : w.heap.size ≤ w'.heap.size
  block : ∀ k, k < w.heap.size → k ≠ b1 → k ≠ b2 → w'.heap[k]? = w.heap[k]?

theorem Fr2.refl (b1 b2 : Nat) (w : World) : Fr2 b1 b2 w w := ⟨rfl, rfl, rfl, Nat.le_refl _, fun _ _ _ _ => rfl⟩

theorem Fr2.trans {b1 b2 : Nat} {a b c : World} (h : Fr2 b1 b2 a b) (k : Fr2 b1 b2 b c) : Fr2 b1 b2 a c :=
  ⟨k.os.trans h.os, k.tape.trans h.tape, k.output.trans h.output, Nat.le_trans h.size k.size, fun i h1 h2 h3 => (k.block i (Nat.lt_of_lt_of_le h1 h.size) h2 h3).trans (h.block i h1 h2 h3)⟩

theorem Fr.left2 {b1 b2 : Nat} {w w' : World} (h : Fr b1 w w') : Fr2 b1 b2 w w' := ⟨h.os, h.tape, h.output, h.size, fun k h1 h2 _ => h.block k h1 h2⟩

theorem Fr.right2 {b1 b2 : Nat} {w w' : World} (h : Fr b2 w w') : Fr2 b1 b2 w w' := ⟨h.os, h.tape, h.output, h.size, fun k h1 _ h3 => h.block k h1 h3⟩

theorem Blk.frb {w w' : World} {b bz : Nat} {xs : List Nat} (h : Blk w b xs) (hf : Fr bz w w') (hne : b ≠ bz) : Blk w' b xs := (hf.block b h.lt hne).trans h

/-- A guess, taken away and put right. -/
theorem knuth_even {S V q S1 X : Nat} (hV : 0 < V) (hq : q = S / V ∨ q = S / V + 1) (h1 : S1 + V * q = S) (_hX : S1 < X) : q = S / V ∧ S1 = S % V := by
  have h2 := Nat.div_add_mod S V
  have h3 := Nat.mod_lt S hV
  rcases hq with h | h
  · rw [h] at h1
    exact ⟨h, by omega⟩
  · rw [h, Nat.mul_add, Nat.mul_one] at h1
    omega

theorem knuth_odd {S V q S1 S2 c X : Nat} (hV : 0 < V) (hq : q = S / V ∨ q = S / V + 1) (h1 : S1 + V * q = S + 1 * X) (hX : S1 < X) (h2 : S2 + c * X = S1 + V) (hX2 : S2 < X) (hc : c ≤ 1) : q - 1 = S / V ∧ 1 ≤ q ∧ S2 = S % V := by
  have h3 := Nat.div_add_mod S V
  have h4 := Nat.mod_lt S hV
  generalize S / V = d at *
  generalize S % V = r at *
  rcases hq with h | h
  · rw [h] at h1
    omega
  · rw [h, Nat.mul_add, Nat.mul_one] at h1
    generalize V * d = y at *
    refine ⟨by omega, by omega, ?_⟩
    rcases (by omega : c = 0 ∨ c = 1) with rfl | rfl
    · omega
    · omega

/-- Where byLimbs stands: k limbs of the quotient are still to come. -/
structure ByRel (bq qo m bu uo n VV : Nat) (Q U : List Nat) (w wr : World) (k : Nat) (Q' U' : List Nat) : Prop where
  outQ : Out Q Q' (qo + k) (qo + m)
  limQ : Limbs Q'
  blkQ : Blk wr bq Q'
  outU : Out U U' (uo + k) (uo + (m + n))
  limU : Limbs U'
  blkU : Blk wr bu U'
  fr : Fr2 bq bu w wr
  eq : sv Q' (qo + k) (m - k) * VV + sv U' (uo + k) n = sv U (uo + k) (n + (m - k))
  lt : sv U' (uo + k) n < VV
  top : sv U' (uo + k + n) (m - k) = 0

theorem ByRel.step {bq qo m bu uo n VV : Nat} {Q U : List Nat} {w wr w2 : World} {i : Nat} {Q' U' U2 : List Nat} (h : ByRel bq qo m bu uo n VV Q U w wr (i + 1) Q' U') (hi : i < m)
    (hq : qo + m ≤ Q.length) (hu : uo + (m + n) ≤ U.length) (hV : 0 < VV) (hVn : VV ≤ 18446744073709551616 ^ n) (qd : Nat) (hqd : qd < 18446744073709551616) (e1 : qd = sv U' (uo + i) (n + 1) / VV)
    (hO : Out U' U2 (uo + i) (uo + i + (n + 1))) (hL : Limbs U2) (e2 : sv U2 (uo + i) (n + 1) = sv U' (uo + i) (n + 1) % VV)
    (hB : Blk w2 bu U2) (hBq : Blk w2 bq (Q'.set (qo + i) qd)) (hf : Fr2 bq bu wr w2) : ByRel bq qo m bu uo n VV Q U w w2 i (Q'.set (qo + i) qd) U2 := by
  have hlQ := h.outQ.len
  have hlU := h.outU.len
  have hlU2 := hO.len
  have hr : sv U' (uo + i) (n + 1) % VV < VV := Nat.mod_lt _ hV
  have hsp := sv_split U2 (uo + i) n 1 (by omega)
  have hone := sv_one U2 (uo + i + n) (by omega)
  rw [hone] at hsp
  have htop : U2.getD (uo + i + n) 0 = 0 := by
    rcases Nat.eq_zero_or_pos (U2.getD (uo + i + n) 0) with h0 | h0
    · exact h0
    · have := Nat.mul_le_mul_left (18446744073709551616 ^ n) h0
      omega
  rw [htop, Nat.mul_zero] at hsp
  simp only [Nat.add_zero] at hsp
  have hS := sv_cons U' (uo + i) 0 (n + 1) (by omega) (by omega)
  rw [Nat.add_zero, Nat.sub_zero, Nat.zero_add, Nat.add_sub_cancel] at hS
  have hUi := h.outU.same (uo + i) (by omega)
  have hUs := sv_cons U (uo + i) 0 (n + (m - i)) (by omega) (by omega)
  rw [Nat.add_zero, Nat.sub_zero, Nat.zero_add, show n + (m - i) - 1 = n + (m - (i + 1)) by omega] at hUs
  have hQs := sv_cons (Q'.set (qo + i) qd) (qo + i) 0 (m - i) (by simp; omega) (by omega)
  rw [Nat.add_zero, Nat.sub_zero, Nat.zero_add, getD_set, if_pos ⟨rfl, by omega⟩, show m - i - 1 = m - (i + 1) by omega] at hQs
  have eO : Out Q' (Q'.set (qo + i) qd) (qo + i) (qo + (i + 1)) := (Out.refl _ _ _).set _ _ (by omega) (by omega)
  rw [show qo + i + 1 = qo + (i + 1) from rfl, eO.sv (qo + (i + 1)) (m - (i + 1)) (by omega)] at hQs
  refine ⟨?_, limbs_set h.limQ _ _ hqd, hBq, ?_, hL, hB, h.fr.trans hf, ?_, ?_, ?_⟩
  · exact (h.outQ.wider (by omega) (Nat.le_refl _)).set _ _ (by omega) (by omega)
  · exact (h.outU.wider (by omega) (Nat.le_refl _)).trans (hO.wider (by omega) (by omega))
  · rw [hQs, hUs, ← hUi, ← hsp, e2, show uo + i + 1 = uo + (i + 1) from rfl, ← h.eq]
    rw [show uo + i + 1 = uo + (i + 1) from rfl] at hS
    have h5 := Nat.div_add_mod (sv U' (uo + i) (n + 1)) VV
    rw [← e1] at h5
    generalize sv U' (uo + i) (n + 1) % VV = r at *
    generalize sv U' (uo + i) (n + 1) = S at *
    generalize sv Q' (qo + (i + 1)) (m - (i + 1)) = a at *
    generalize sv U' (uo + (i + 1)) n = b at *
    generalize U'.getD (uo + i) 0 = c at *
    have e6 : (qd + 18446744073709551616 * a) * VV = VV * qd + 18446744073709551616 * (a * VV) := by
      rw [Nat.add_mul, Nat.mul_comm qd, Nat.mul_assoc]
    rw [e6, Nat.mul_add]
    omega
  · rw [← hsp, e2]; exact hr
  · have hc := sv_cons U2 (uo + i + n) 0 (m - i) (by omega) (by omega)
    rw [Nat.add_zero, Nat.sub_zero, Nat.zero_add, htop, Nat.zero_add, show m - i - 1 = m - (i + 1) by omega] at hc
    rw [hc, hO.sv (uo + i + n + 1) (m - (i + 1)) (by omega), show uo + i + n + 1 = uo + (i + 1) + n by omega, h.top]

end Go.Proofs.YtppblbhkghjphaaGreatDoor

/- Package div: byLimbs. -/
namespace Go.Proofs.YtppblbhkghjphaaGreatDoor
open Go.RowKit
open Lm
attribute [local go_sem ↓] Go.wp_at_zero Go.wp_at_succ

theorem Arg.fr2 {w w' : World} {b off n c b1 b2 : Nat} {X : List Nat} (h : Arg w (.slice (some ⟨b, off, none⟩) n c) X) (hf : Fr2 b1 b2 w w') (h1 : b ≠ b1) (h2 : b ≠ b2) : Arg w' (.slice (some ⟨b, off, none⟩) n c) X := by
  by_cases hb : b < w.heap.size
  · obtain ⟨ao, cap, e1, g1, g2, g3⟩ := h.form
    refine ⟨⟨ao, cap, e1, g1, g2, ?_⟩, h.limbs, h.few, h.nz⟩
    rcases g3 with h0 | ⟨b', off', rfl, hc⟩
    · exact .inl h0
    · cases e1
      refine .inr ⟨_, _, rfl, fun k hk => ?_⟩
      rw [World.cell?_of_block (w := w) (hf.block b hb h1 h2)]
      exact hc k hk
  · obtain ⟨ao, cap, e1, g1, g2, g3⟩ := h.form
    refine ⟨⟨ao, cap, e1, g1, g2, ?_⟩, h.limbs, h.few, h.nz⟩
    rcases g3 with h0 | ⟨b', off', rfl, hc⟩
    · exact .inl h0
    · cases e1
      by_cases hX : X.length = 0
      · exact .inl (List.length_eq_zero_iff.1 hX)
      · exact absurd (Lies.block (zs := X) (.inr ⟨_, _, rfl, hc⟩) (by omega)) hb

/-- What a division in place leaves. -/
def DivDone (bq qo m bu uo n VV : Nat) (Q U : List Nat) (w : World) (e : Ending) (w' : World) : Prop :=
  e = .returned (.tuple #[]) ∧ ∃ Q' U' : List Nat, ByRel bq qo m bu uo n VV Q U w w' 0 Q' U'

set_option maxRecDepth 20000 in
set_option maxHeartbeats 1000000 in
theorem byLimbs_any (bq qo m qcap bu uo ucap bv ov vcap j : Nat) (Q U V : List Nat) (w : World)
    (hQ : Blk w bq Q) (lQ : Limbs Q) (hU : Blk w bu U) (lU : Limbs U) (hV : Arg w (.slice (some ⟨bv, ov, none⟩) V.length vcap) V) (lV : V.length = j + 1) (ht : 9223372036854775808 ≤ V.getD j 0)
    (n1 : bq ≠ bu) (n2 : bv ≠ bq) (n3 : bv ≠ bu) (q1 : qo + m ≤ Q.length) (q2 : m ≤ qcap) (q3 : qcap ≤ 9223372036854775807) (u1 : uo + (m + V.length) ≤ U.length) (u2 : m + V.length ≤ ucap) (u3 : ucap ≤ 9223372036854775807)
    (few : m + V.length ≤ 1125899906842623) (hlt : sv U (uo + m) V.length < val V) :
    Calls Tryz.prog 93 #[.slice (some ⟨bq, qo, none⟩) m qcap, .slice (some ⟨bu, uo, none⟩) (m + V.length) ucap, .slice (some ⟨bv, ov, none⟩) V.length vcap] w (DivDone bq qo m bu uo V.length (val V) Q U w) := by
  have HJ := hide lV
  have HV0 : Hid (0 < val V ∧ val V ≤ 18446744073709551616 ^ V.length) := ⟨by omega, Nat.le_of_lt (val_lt hV.limbs)⟩
  have START : Hid (ByRel bq qo m bu uo V.length (val V) Q U w w m Q U) := ⟨Out.refl _ _ _, lQ, hQ, Out.refl _ _ _, lU, hU, Fr2.refl _ _ _, by rw [Nat.sub_self, sv_zero, Nat.zero_mul, Nat.zero_add, Nat.add_zero], hlt, by rw [Nat.sub_self, sv_zero]⟩
  have HVA := hide hV
  have vc := hV.form
  clear lV hQ lQ hU lU hlt hV vc
  go_enter Tryz.func93, Tryz.ntmps93
  go_wp2
  go_loopw [6] (fun i wr => ∃ (k : Nat) (Q' U' : List Nat), k ≤ m ∧ i = .int .i64 ((k : Int) - 1) ∧ ByRel bq qo m bu uo V.length (val V) Q U w wr k Q' U') (fun i _ => (intOf i + 1).toNat)
  case atStart => exact ⟨m, Q, U, Nat.le_refl _, rfl, START.out⟩
  case round =>
    obtain ⟨k, Q', U', hk, rfl, hrel⟩ := hrel
    have HR := hide hrel
    clear hrel START
    by_cases hk0 : k = 0
    · subst hk0
      go_wp2
      go_end0
      exact ⟨rfl, Q', U', HR.out⟩
    · obtain ⟨i, rfl⟩ : ∃ i, k = i + 1 := ⟨k - 1, by omega⟩
      have ej : (((i + 1 : Nat) : Int) - 1) = (i : Int) := by omega
      rw [ej]
      clear ej hk0
      have hcu : ¬ ucap = i := by omega
      have y1 : (0 : Int) ≤ (i : Int) := by omega
      have y2 : (i : Int) < (m : Int) := by omega
      have y3 : (i : Int) + (V.length : Int) + 1 ≤ (ucap : Int) := by omega
      have y4 : i + V.length + 1 - i = V.length + 1 := by omega
      have hsl : (seg U' (uo + i) (V.length + 1)).length = V.length + 1 := seg_length _ _ _ (by rw [HR.out.outU.len]; omega)
      have hS := sv_cons U' (uo + i) 0 (V.length + 1) (by rw [HR.out.outU.len]; omega) (by omega)
      rw [Nat.add_zero, Nat.sub_zero, Nat.zero_add, Nat.add_sub_cancel, show uo + i + 1 = uo + (i + 1) from rfl] at hS
      have hlim := limb_lt HR.out.limU (uo + i)
      have hlow := HR.out.lt
      have huv : val (seg U' (uo + i) (V.length + 1)) < val V * 18446744073709551616 := by
        show sv U' (uo + i) (V.length + 1) < _
        rw [hS]; omega
      have hVr := HVA.out.fr2 HR.out.fr n2 n3
      have HG := guess_any (.slice (some ⟨bu, uo + i, none⟩) (V.length + 1) (ucap - i)) (.slice (some ⟨bv, ov, none⟩) V.length vcap) (seg U' (uo + i) (V.length + 1)) V j wr
        (HR.out.blkU.seg_arg HR.out.limU (uo + i) (V.length + 1) (ucap - i) (by rw [HR.out.outU.len]; omega) (by omega) (by omega) (by omega)) hVr HJ.out (by have := HJ.out; omega) ht huv
      have HS := hide hsl
      clear hS hlim hlow huv hsl
      have HVR := hide hVr
      clear hVr
      go_wp2_with fail
      refine HG.mono ?_
      rintro e w2 ⟨⟨qd, rfl, hqd, hqe⟩, hs⟩
      have HQE : Hid (qd = sv U' (uo + i) (V.length + 1) / val V ∨ qd = sv U' (uo + i) (V.length + 1) / val V + 1) := hqe
      have bq2 := HR.out.blkQ.below (hs.below _) HR.out.blkQ.lt
      have bu2 := HR.out.blkU.below (hs.below _) HR.out.blkU.lt
      have f1 := bq2.free (qo + i)
      have c1 := bq2.cell (qo + i) (by rw [HR.out.outQ.len]; omega)
      have bq3 := bq2.set (qo + i) qd
      have bu3 := bu2.other ⟨bq, qo + i, none⟩ (.int .u64 (qd : Int)) (Ne.symm n1)
      have F3 := hide (show Fr2 bq bu wr (w2.setCell ⟨bq, qo + i, none⟩ (.int .u64 (qd : Int))) from (Fr.of_below (hs.below _) : Fr bq wr w2).left2.trans ((Fr.refl bq w2).setCell _ _).left2)
      have HM := dminusTimes_any bu (uo + i) (V.length + 1) (ucap - i) U' _ V qd _ bu3 HR.out.limU (HVR.out.fr2 F3.out n2 n3) (aside_of n3 _ _) (by rw [HR.out.outU.len]; omega) (by omega) (by omega) hqd (by omega)
      have BQ3 := hide bq3
      generalize Q'.getD (qo + i) 0 = oq at *
      clear hqe HG bq2 bu2 bq3 bu3 hs
      go_wp2_with fail
      refine HM.mono ?_
      rintro e w4 ⟨cy, U2, hcy, rfl, ho4, hl4, hb4, hf4, hv4⟩
      have hX1 := sv_lt hl4 (uo + i) (V.length + 1)
      have hX2 := sv_lt HR.out.limU (uo + i) (V.length + 1)
      have bq4 := BQ3.out.frb hf4 n1
      have F4 := hide (F3.out.trans hf4.right2)
      clear HM
      by_cases hc0 : cy = 0
      · subst hc0
        obtain ⟨k1, k2⟩ := knuth_even HV0.out.1 HQE.out (show _ + val V * qd = _ by rw [hv4]; omega) hX1
        have HSTEP := hide (HR.out.step (by omega) q1 u1 HV0.out.1 HV0.out.2 qd hqd k1 ho4 hl4 k2 hb4 bq4 F4.out)
        clear ho4 hl4 hb4 hf4 hv4 hX1 hX2 bq4 k1 k2 F4 HR
        go_wp2
        go_roundw
        case rel => exact ⟨i, _, U2, by omega, rfl, HSTEP.out⟩
        case measure => simp [intOf]
      · have hc1 : cy = 1 := by omega
        have hpos : (0 : Int) < (cy : Int) := by omega
        have hq1 : 1 ≤ qd := by
          rcases Nat.eq_zero_or_pos qd with h | h
          · rw [h, hc1, Nat.mul_zero] at hv4
            omega
          · exact h
        have lq : (Q'.set (qo + i) qd).length = Q.length := by rw [List.length_set, HR.out.outQ.len]
        have f4 := bq4.free (qo + i)
        have c4 : w4.cell? ⟨bq, qo + i, none⟩ = some (.int .u64 (qd : Int)) := by
          have := bq4.cell (qo + i) (by omega)
          rw [getD_set, if_pos ⟨rfl, by rw [HR.out.outQ.len]; omega⟩] at this
          exact this
        have bq5 := bq4.set (qo + i) (qd - 1)
        rw [List.set_set] at bq5
        have bu5 := hb4.other ⟨bq, qo + i, none⟩ (.int .u64 ((qd - 1 : Nat) : Int)) (Ne.symm n1)
        have F5 := hide (F4.out.trans ((Fr.refl bq w4).setCell (qo + i) (.int .u64 ((qd - 1 : Nat) : Int))).left2)
        have HP := dplus_any bu (uo + i) (V.length + 1) (ucap - i) U2 _ V _ bu5 hl4 (HVR.out.fr2 F5.out n2 n3) (aside_of n3 _ _) (by rw [ho4.len, HR.out.outU.len]; omega) (by omega) (by omega) (by omega)
        have BQ5 := hide bq5
        have H4 := hide (And.intro ho4 (And.intro hl4 (And.intro hv4 hX1)))
        have eq1 : (qd : Int) - 1 = ((qd - 1 : Nat) : Int) := by omega
        have hq2 : qd - 1 < 18446744073709551616 := by omega
        obtain ⟨q', hq'⟩ : ∃ q', qd - 1 = q' := ⟨_, rfl⟩
        have HQ' := hide hq'
        rw [hq'] at eq1 hq2 HP BQ5 F5
        clear bq4 bq5 bu5 hq' hv4 ho4 hl4 hb4 hf4 hX1 hX2 F4 lq
        have HC1 := hide hc1
        clear hc1
        go_wp2_with fail
        refine HP.mono ?_
        rintro e w6 ⟨c6, U6, hc6, rfl, ho6, hl6, hb6, hf6, hv6⟩
        have hX6 := sv_lt hl6 (uo + i) (V.length + 1)
        obtain ⟨k1, k2, k3⟩ := knuth_odd HV0.out.1 HQE.out (show _ + val V * qd = _ + 1 * _ by rw [H4.out.2.2.1, HC1.out]) H4.out.2.2.2 hv6 hX6 hc6
        rw [HQ'.out] at k1
        have HSTEP := hide (HR.out.step (by omega) q1 u1 HV0.out.1 HV0.out.2 q' hq2 k1 (H4.out.1.trans ho6) hl6 k3 hb6 (BQ5.out.frb hf6 n1) (F5.out.trans hf6.right2))
        clear ho6 hl6 hb6 hf6 hv6 hX6 k1 k2 k3 HP HR
        go_wp2
        go_roundw
        case rel => exact ⟨i, _, U6, by omega, rfl, HSTEP.out⟩
        case measure => simp [intOf]

end Go.Proofs.YtppblbhkghjphaaGreatDoor

/- Package div: answer, isZero, refusal. -/
namespace Go.Proofs.YtppblbhkghjphaaGreatDoor
open Go.RowKit
open Lm

theorem danswer_own (v : Value) (base : Nat) (xs : List Nat) (w : World) (h : Ans w base v xs) (hf : xs.length ≤ 1125899906842624) :
    Calls Tryz.prog 54 #[v] w fun e w' => w' = w ∧ Res w base e (val xs) := by
  have ha := h.arg hf
  obtain ⟨ao, cap, rfl, hcap, hmax, hlies⟩ := ha.form
  have hle := tr_length_le xs
  have H1 := dtrim_any _ cap xs w hcap hmax hlies
  have H2 := length_val _ _ _ ha
  have HA : Hid (Ans w base (.slice ao (tr xs).length cap) (tr xs)) := h.trim
  have HT : Hid (tr (tr xs) = tr xs ∧ val (tr xs) = val xs) := ⟨tr_tr xs, val_tr xs⟩
  unfold Res
  generalize tr xs = T at *
  generalize val xs = V at *
  generalize blen V = y at *
  clear hlies h ha
  by_cases hy : y ≤ 67108864
  · go_enter Tryz.func54, Tryz.ntmps54
    go_wp2_with fail
    refine H2.mono ?_
    rintro e w' ⟨rfl, rfl⟩
    go_wp2_with fail
    refine H1.mono ?_
    rintro e w' ⟨rfl, rfl⟩
    go_wp2
    go_ret2
    exact ⟨rfl, _, _, T, rfl, HA.out, .inl ⟨rfl, HT.out.2, HT.out.1, hy⟩⟩
  · go_enter Tryz.func54, Tryz.ntmps54
    go_wp2_with fail
    refine H2.mono ?_
    rintro e w' ⟨rfl, rfl⟩
    go_wp2
    go_ret2
    exact ⟨rfl, _, _, [], rfl, Ans.nil _ _, .inr ⟨rfl, rfl, by omega⟩⟩

theorem blen_zero_iff (x : Nat) : blen x = 0 ↔ x = 0 := by
  have := blen_le_iff x 0
  simp at this
  omega

theorem isZero_any (v : Value) (X : List Nat) (w : World) (h : Arg w v X) :
    Calls Tryz.prog 66 #[v] w fun e w' => e = .returned (.bool (decide (val X = 0))) ∧ w' = w := by
  have H := length_val _ _ w h
  have hz := blen_zero_iff (val X)
  obtain ⟨ao, cap, rfl, hcap, hmax, hl⟩ := h.form
  clear hl h
  generalize blen (val X) = y at *
  by_cases h0 : val X = 0
  · rw [decide_eq_true h0]
    have e0 : y = 0 := hz.2 h0
    subst e0
    clear hz
    go_enter Tryz.func66, Tryz.ntmps66
    go_wp2_with fail
    refine H.mono ?_
    rintro e w2 ⟨rfl, rfl⟩
    clear H
    go_wp2
    go_ret
    exact ⟨rfl, rfl⟩
  · rw [decide_eq_false h0]
    have e0 : y ≠ 0 := fun e => h0 (hz.1 e)
    have hne : ((y : Int) == 0) = false := by rw [beq_eq_false_iff_ne]; omega
    clear hz e0
    go_enter Tryz.func66, Tryz.ntmps66
    go_wp2_with fail
    refine H.mono ?_
    rintro e w2 ⟨rfl, rfl⟩
    clear H
    go_wp2
    go_ret
    exact ⟨rfl, rfl⟩

/-- What refusal answers. -/
def refusalN (x y : Nat) : Int := if y = 0 then 30 else if 67108864 + blen y < blen x then 3 else 0

theorem refusal_any (v1 v2 : Value) (X Y : List Nat) (w : World) (h1 : Arg w v1 X) (h2 : Arg w v2 Y) :
    Calls Tryz.prog 51 #[v1, v2] w fun e w' => e = .returned (.int .i64 (refusalN (val X) (val Y))) ∧ w' = w := by
  have HZ := isZero_any _ _ w h2
  have L1 := length_val _ _ w h1
  have L2 := length_val _ _ w h2
  have b1 : blen (val X) ≤ 64 * X.length := (blen_le_iff _ _).2 (by have := val_lt h1.limbs; rw [show (18446744073709551616 : Nat) = 2 ^ 64 from rfl, ← Nat.pow_mul] at this; exact this)
  have b2 : blen (val Y) ≤ 64 * Y.length := (blen_le_iff _ _).2 (by have := val_lt h2.limbs; rw [show (18446744073709551616 : Nat) = 2 ^ 64 from rfl, ← Nat.pow_mul] at this; exact this)
  have c1 := h1.few
  have c2 := h2.few
  obtain ⟨a1, d1, rfl, _, _, _⟩ := h1.form
  obtain ⟨a2, d2, rfl, _, _, _⟩ := h2.form
  clear h1 h2
  by_cases h0 : val Y = 0
  · have e : refusalN (val X) (val Y) = 30 := if_pos h0
    rw [e]
    rw [decide_eq_true h0] at HZ
    clear L1 L2
    go_enter Tryz.func51, Tryz.ntmps51
    go_wp2_with fail
    refine HZ.mono ?_
    rintro e w2 ⟨rfl, rfl⟩
    clear HZ
    go_wp2
    go_ret
    exact ⟨rfl, rfl⟩
  · rw [decide_eq_false h0] at HZ
    by_cases hb : 67108864 + blen (val Y) < blen (val X)
    · have e : refusalN (val X) (val Y) = 3 := by unfold refusalN; rw [if_neg h0, if_pos hb]
      rw [e]
      clear h0 e
      generalize blen (val X) = x at *
      generalize blen (val Y) = y at *
      have i1 : (67108864 : Int) < (x : Int) - (y : Int) := by omega
      go_enter Tryz.func51, Tryz.ntmps51
      go_wp2_with fail
      refine HZ.mono ?_
      rintro e w2 ⟨rfl, rfl⟩
      clear HZ
      go_wp2_with fail
      refine L1.mono ?_
      rintro e w2 ⟨rfl, rfl⟩
      go_wp2_with fail
      refine L2.mono ?_
      rintro e w2 ⟨rfl, rfl⟩
      clear L1 L2
      go_wp2
      go_ret
      exact ⟨rfl, rfl⟩
    · have e : refusalN (val X) (val Y) = 0 := by unfold refusalN; rw [if_neg h0, if_neg hb]
      rw [e]
      clear h0 e
      generalize blen (val X) = x at *
      generalize blen (val Y) = y at *
      have i1 : ¬ ((67108864 : Int) < (x : Int) - (y : Int)) := by omega
      go_enter Tryz.func51, Tryz.ntmps51
      go_wp2_with fail
      refine HZ.mono ?_
      rintro e w2 ⟨rfl, rfl⟩
      clear HZ
      go_wp2_with fail
      refine L1.mono ?_
      rintro e w2 ⟨rfl, rfl⟩
      go_wp2_with fail
      refine L2.mono ?_
      rintro e w2 ⟨rfl, rfl⟩
      clear L1 L2
      go_wp2
      go_ret
      exact ⟨rfl, rfl⟩

end Go.Proofs.YtppblbhkghjphaaGreatDoor

/- Package div: product. -/
namespace Go.Proofs.YtppblbhkghjphaaGreatDoor
open Go.RowKit
open Lm
attribute [local go_sem ↓] Go.wp_at_zero Go.wp_at_succ

theorem below_undrew {w w' : World} (h : Below w.drew.heap.size w.drew w') : Below w.heap.size w w' := ⟨h.os, h.tape, h.output, h.size, h.block⟩

/-- What product answers. -/
def ProdDone (w : World) (p : Nat) (e : Ending) (w' : World) : Prop :=
  (∃ v rs, e = .returned v ∧ Ans w' w.heap.size v rs ∧ tr rs = rs ∧ val rs = p) ∧ Below w.heap.size w w'

theorem mul_fit (X Y : List Nat) (hX : Limbs X) (hY : Limbs Y) : val X * val Y < 18446744073709551616 ^ (X.length + Y.length) := by
  rw [Nat.pow_add]
  have h1 := val_lt hX
  have h2 := val_lt hY
  rcases Nat.eq_zero_or_pos (val Y) with h | h
  · rw [h, Nat.mul_zero]; exact Nat.mul_pos (by omega) (by omega)
  · exact Nat.mul_lt_mul_of_lt_of_lt h1 h2

set_option maxRecDepth 20000 in
set_option maxHeartbeats 1000000 in
theorem dproduct_any : ∀ (N : Nat) (X Y : List Nat) (va vb : Value) (w : World), X.length + Y.length < N → X.length + Y.length ≤ 35184372088831 → Arg w va X → Arg w vb Y → Tab w →
    Calls Tryz.prog 107 #[va, vb] w (ProdDone w (val X * val Y)) := by
  intro N
  induction N with
  | zero => intro X Y va vb w h; omega
  | succ N ih =>
    intro X Y va vb w hN hfew hA hA2 hT
    obtain ⟨a1, c1, rfl, hc1, hm1, hl1⟩ := hA.form
    obtain ⟨a2, c2, rfl, hc2, hm2, hl2⟩ := hA2.form
    have T1 := dtrim_any a1 c1 X w hc1 hm1 hl1
    have T2 := dtrim_any a2 c2 Y w hc2 hm2 hl2
    have A1 := hA.trim
    have A2 := hA2.trim
    have m1 := limbs_tr hA.limbs
    have m2 := limbs_tr hA2.limbs
    have l1 := tr_length_le X
    have l2 := tr_length_le Y
    rw [← val_tr X, ← val_tr Y]
    clear hA hA2 hl1 hl2
    generalize tr X = P at *
    generalize tr Y = R at *
    by_cases hsw : P.length < R.length
    · have hsw2 : (P.length : Int) < (R.length : Int) := by omega
      rw [Nat.mul_comm]
      have AL := A2
      have AS := A1
      have mL := m2
      have mS := m1
      have hfit := mul_fit R P mL mS
      by_cases hsm : R.length + P.length ≤ 1048576
      · have HM := mul_any _ _ R P w AL AS hT (by omega)
        have hbl : blen (val R * val P) ≤ 67108864 := by
          have : blen (val R * val P) ≤ 64 * (R.length + P.length) := (blen_le_iff _ _).2 (by rw [Nat.pow_mul]; exact hfit)
          omega
        have hsm2 : (R.length : Int) + (P.length : Int) ≤ 1048576 := by omega
        clear AL AS hT hfit
        go_enter Tryz.func107, Tryz.ntmps107
        go_wp2_with fail
        refine T1.mono ?_
        rintro e wn ⟨rfl, hw⟩; rw [hw]; clear hw wn
        go_wp2_with fail
        refine T2.mono ?_
        rintro e wn ⟨rfl, hw⟩; rw [hw]; clear hw wn
        clear T1 T2
        go_wp2_with fail
        refine HM.mono ?_
        rintro e w2 ⟨hb, v, c, rs, rfl, hans, hres⟩
        have HX : Hid (ProdDone w (val R * val P) (.returned v) w2) := by
          rcases hres with ⟨_, hv, ht, _⟩ | ⟨_, _, hbig⟩
          · exact ⟨⟨v, rs, rfl, hans, ht, hv⟩, hb⟩
          · omega
        clear hb hans hres HM
        go_wp2
        go_ret
        exact HX.out
      · obtain ⟨half, eh, hh1, hh2⟩ : ∃ half : Nat, (R.length : Int) / 2 = (half : Int) ∧ 2 * half ≤ R.length ∧ R.length ≤ 2 * half + 1 := ⟨R.length / 2, by omega, by omega, by omega⟩
        have hord : P.length ≤ R.length := by omega
        obtain ⟨K, eK, hK1, hK2⟩ : ∃ K : Nat, (R.length : Int) + (P.length : Int) = (K : Int) ∧ K ≤ R.length + P.length ∧ R.length + P.length ≤ K := ⟨_, rfl, Nat.le_refl _, Nat.le_refl _⟩
        have hsm2 : ¬ ((K : Int) ≤ 1048576) := by omega
        have hKb : K ≤ 35184372088831 := by omega
        have HFIT := hide hfit
        have HT := hide hT
        have HAL := hide AL
        have HAS := hide AS
        have HMS := hide (And.intro mL mS)
        obtain ⟨bL, oL, rfl⟩ : ∃ b off, a2 = some ⟨b, off, none⟩ := by
          obtain ⟨_, _, e, _, _, hl⟩ := AL.form
          cases e
          rcases hl with h0 | ⟨b, off, e, _⟩
          · have hz : R.length = 0 := by rw [h0]; rfl
            omega
          · exact ⟨b, off, e⟩
        obtain ⟨i0, hi, hz0, hz1, hz2⟩ := info_parts Tryz.infoU
        clear AL AS hT hfit A1 A2 mL mS m1 m2
        go_enter Tryz.func107, Tryz.ntmps107
        go_wp2_with fail
        refine T1.mono ?_
        rintro e wn ⟨rfl, hw⟩; rw [hw]; clear hw wn
        go_wp2_with fail
        refine T2.mono ?_
        rintro e wn ⟨rfl, hw⟩; rw [hw]; clear hw wn
        clear T1 T2
        go_wp2_with (at_make; refine wpList_make_full _ rfl _ _ 24 rfl w.heap.size 32 i0 (.int .u64 0) 1 Tryz.underlying24 hi hz0 hz1 .i64 .i64 _ _ K rfl rfl (by omega) (by omega) (by rw [hz2]; omega) (by unfold maxLen; omega) (Nat.le_refl _) ?_; intro w1 hown hgrow)
        have hb1 := Blk.made hown
        have hbel : Below w.heap.size w w1 := (Below.refl _ _).grown hgrow (Nat.le_refl _) (fun k hk => by cases hk)
        have HB1 := hide hb1
        have HBE := hide hbel
        clear hown hgrow hi hz0 hz1 hz2 hb1 hbel
        have lt1 : (R.take half).length = half := by simp; omega
        have ld1 : (R.drop half).length = R.length - half := by simp
        have IH1 := ih (R.take half) P _ _ w1 (by omega) (by omega) ((HAL.out.below HBE.out).front half (by omega)) (HAS.out.below HBE.out) (HT.out.below HBE.out)
        go_wp2_with fail
        refine IH1.mono ?_
        rintro e w2 ⟨⟨v1, rs1, rfl, An1, t1, e1⟩, hb2⟩
        have mT := (HAL.out.front half (by omega)).limbs
        have mD := (HAL.out.drop half (by omega)).limbs
        have f1 := mul_fit (R.take half) P mT HMS.out.2
        have f2 := mul_fit (R.drop half) P mD HMS.out.2
        have r1 := tr_len_lt rs1 (half + P.length) (by rw [e1]; rw [lt1] at f1; exact f1)
        rw [t1] at r1
        have A1' := An1.arg (by omega)
        obtain ⟨ao, co, rfl, _, _, hlo⟩ := A1'.form
        have B2 := HB1.out.below hb2 HB1.out.lt
        obtain ⟨w3, M1, hcp, B3, L3, F3, O3, S3⟩ := copy_q w.heap.size 0 K K (List.replicate K 0) ao co rs1 w2 B2 (limbs_replicate _) An1.limbs (sv_zeros K 0 K) (by simp) (by omega) hlo
        have HB3 : Hid (Below w.heap.size w w3) := (HBE.out.trans (hb2.mono HBE.out.size)).trans (F3.below (Nat.le_refl _) (by have := HBE.out.size; have := hb2.size; omega))
        have IH2 := ih (R.drop half) P _ _ w3.drew (by omega) (by omega) ((HAL.out.below HB3.out).drop half (by omega)).drew (HAS.out.below HB3.out).drew (HT.out.below HB3.out.drew)
        have hch : ¬ K = half := by omega
        have hcl : ¬ c2 = half := by omega
        have lM : M1.length = K := by rw [O3.len]; simp
        have HM1 := hide (And.intro L3 (And.intro S3 lM))
        have HE1 := hide e1
        have HBK := hide B3
        have k1 : (0 : Int) ≤ (half : Int) := by omega
        have k2 : (half : Int) ≤ (K : Int) := by omega
        have k3 : (half : Int) ≤ (R.length : Int) := by omega
        have k4 : (half : Int) ≤ (c2 : Int) := by omega
        clear IH1 An1 hb2 A1' hlo B2 B3 L3 F3 O3 S3 lM e1 t1 mT mD f1 hN hfew
        go_wp2
        have HPP := hide (fun (w4 : World) (v2 : Value) (rs2 : List Nat) (An2 : Ans w4 w3.drew.heap.size v2 rs2) (t2 : tr rs2 = rs2) (e2 : val rs2 = val (R.drop half) * val P) (hb4 : Below w3.drew.heap.size w3.drew w4) =>
          show Calls Tryz.prog 104 #[.slice (some ⟨w.heap.size, half, none⟩) (K - half) (K - half), v2] w4 (CarryDone w.heap.size half (K - half) M1 w4 (sv M1 half (K - half) + val rs2)) by
            have r2 := tr_len_lt rs2 (R.length - half + P.length) (by rw [e2]; rw [ld1] at f2; exact f2)
            rw [t2] at r2
            have hlt4 : w.heap.size < w3.drew.heap.size := HBK.out.lt
            exact dplus_any w.heap.size half (K - half) (K - half) M1 v2 rs2 w4 (HBK.out.below (below_undrew hb4) HBK.out.lt) HM1.out.1 (An2.arg (by omega)) (fun b off n c e => by subst e; exact .inl (fun h => by have := (An2.own.lt b rfl).1; omega)) (by rw [HM1.out.2.2]; omega) (Nat.le_refl _) (by omega) (by omega))
        go_region_held3 (fun _ => True) (trivial) (first
          | (go_at_call 107; refine IH2.mono ?_; rintro e w4 ⟨⟨v2, rs2, rfl, An2, t2, e2⟩, hb4⟩)
          | (go_at_call 104; refine (HPP.out _ _ _ An2 t2 e2 hb4).mono ?_; rintro e w5 ⟨c5, M2, hc5, rfl, O5, L5, B5, F5, S5⟩))
        have l5 : M2.length = K := by rw [O5.len, HM1.out.2.2]
        have HTR := dtrim_any (some ⟨w.heap.size, 0, none⟩) K M2 w5 (by omega) (by omega) (.inr ⟨_, 0, rfl, fun j hj => by rw [Nat.zero_add]; exact B5.cell j hj⟩)
        rw [l5] at HTR
        have HVAL : Hid (val M2 = val R * val P) := by
          refine hide ?_
          obtain ⟨d, hd⟩ : ∃ d, K = half + d := ⟨K - half, by omega⟩
          have s0 := sv_split M1 0 half d (by rw [HM1.out.2.2]; omega)
          have s1 := sv_split M2 0 half d (by omega)
          have s2 := O5.sv 0 half (by omega)
          have s3 := HM1.out.2.1
          have s4 := val_halves R half (by omega)
          have s5 : sv M2 0 (half + d) = val M2 := by rw [← hd, ← l5, sv_all]
          have s6 : K - half = d := by omega
          have s7 := HFIT.out
          have s8 : R.length + P.length = half + d := by omega
          rw [s6] at S5
          rw [hd] at s3
          rw [s8, Nat.pow_add] at s7
          rw [Nat.zero_add] at s0 s1
          rw [HE1.out] at s3
          rw [e2] at S5
          rw [s4, Nat.add_mul, Nat.mul_assoc] at s7 ⊢
          rw [← s5, s1, s2]
          rw [s0] at s3
          generalize val (R.take half) * val P = a at *
          generalize val (R.drop half) * val P = b at *
          generalize sv M1 0 half = x at *
          generalize sv M1 half d = y at *
          generalize sv M2 half d = z at *
          generalize (18446744073709551616 : Nat) ^ half = W at *
          generalize (18446744073709551616 : Nat) ^ d = V at *
          have t1 : W * z + W * (c5 * V) = W * y + W * b := by rw [← Nat.mul_add, ← Nat.mul_add, S5]
          have t2 : W * (c5 * V) = c5 * (W * V) := by rw [← Nat.mul_assoc, Nat.mul_comm W c5, Nat.mul_assoc]
          rw [t2] at t1
          rcases (by omega : c5 = 0 ∨ c5 = 1) with rfl | rfl
          · omega
          · omega
        have HEND : Hid (ProdDone w (val R * val P) (.returned (.slice (some ⟨w.heap.size, 0, none⟩) (tr M2).length K)) w5) := by
          have hb5 : Below w.heap.size w w4 := HB3.out.trans ((below_undrew hb4).mono HB3.out.size)
          have AM := (Ans.of_blk (base := w.heap.size) (zs := M2) (Nat.le_refl _) B5 List.take_length.symm (Nat.le_refl _) (by omega) L5).trim
          rw [l5] at AM
          exact ⟨⟨_, tr M2, rfl, AM, tr_tr _, by rw [val_tr]; exact HVAL.out⟩, hb5.trans (F5.below (Nat.le_refl _) hb5.size)⟩
        clear An2 t2 e2 hb4 O5 L5 B5 F5 S5 HVAL HPP IH2 hcp
        go_wp2_with fail
        refine HTR.mono ?_
        rintro e w6 ⟨rfl, hw⟩; subst hw
        clear HTR
        go_wp2
        go_ret
        exact HEND.out
    · have hsw2 : ¬ ((P.length : Int) < (R.length : Int)) := by omega
      have AL := A1
      have AS := A2
      have mL := m1
      have mS := m2
      have hfit := mul_fit P R mL mS
      by_cases hsm : P.length + R.length ≤ 1048576
      · have HM := mul_any _ _ P R w AL AS hT (by omega)
        have hbl : blen (val P * val R) ≤ 67108864 := by
          have : blen (val P * val R) ≤ 64 * (P.length + R.length) := (blen_le_iff _ _).2 (by rw [Nat.pow_mul]; exact hfit)
          omega
        have hsm2 : (P.length : Int) + (R.length : Int) ≤ 1048576 := by omega
        clear AL AS hT hfit
        go_enter Tryz.func107, Tryz.ntmps107
        go_wp2_with fail
        refine T1.mono ?_
        rintro e wn ⟨rfl, hw⟩; rw [hw]; clear hw wn
        go_wp2_with fail
        refine T2.mono ?_
        rintro e wn ⟨rfl, hw⟩; rw [hw]; clear hw wn
        clear T1 T2
        go_wp2_with fail
        refine HM.mono ?_
        rintro e w2 ⟨hb, v, c, rs, rfl, hans, hres⟩
        have HX : Hid (ProdDone w (val P * val R) (.returned v) w2) := by
          rcases hres with ⟨_, hv, ht, _⟩ | ⟨_, _, hbig⟩
          · exact ⟨⟨v, rs, rfl, hans, ht, hv⟩, hb⟩
          · omega
        clear hb hans hres HM
        go_wp2
        go_ret
        exact HX.out
      · obtain ⟨half, eh, hh1, hh2⟩ : ∃ half : Nat, (P.length : Int) / 2 = (half : Int) ∧ 2 * half ≤ P.length ∧ P.length ≤ 2 * half + 1 := ⟨P.length / 2, by omega, by omega, by omega⟩
        have hord : R.length ≤ P.length := by omega
        obtain ⟨K, eK, hK1, hK2⟩ : ∃ K : Nat, (P.length : Int) + (R.length : Int) = (K : Int) ∧ K ≤ P.length + R.length ∧ P.length + R.length ≤ K := ⟨_, rfl, Nat.le_refl _, Nat.le_refl _⟩
        have hsm2 : ¬ ((K : Int) ≤ 1048576) := by omega
        have hKb : K ≤ 35184372088831 := by omega
        have HFIT := hide hfit
        have HT := hide hT
        have HAL := hide AL
        have HAS := hide AS
        have HMS := hide (And.intro mL mS)
        obtain ⟨bL, oL, rfl⟩ : ∃ b off, a1 = some ⟨b, off, none⟩ := by
          obtain ⟨_, _, e, _, _, hl⟩ := AL.form
          cases e
          rcases hl with h0 | ⟨b, off, e, _⟩
          · have hz : P.length = 0 := by rw [h0]; rfl
            omega
          · exact ⟨b, off, e⟩
        obtain ⟨i0, hi, hz0, hz1, hz2⟩ := info_parts Tryz.infoU
        clear AL AS hT hfit A1 A2 mL mS m1 m2
        go_enter Tryz.func107, Tryz.ntmps107
        go_wp2_with fail
        refine T1.mono ?_
        rintro e wn ⟨rfl, hw⟩; rw [hw]; clear hw wn
        go_wp2_with fail
        refine T2.mono ?_
        rintro e wn ⟨rfl, hw⟩; rw [hw]; clear hw wn
        clear T1 T2
        go_wp2_with (at_make; refine wpList_make_full _ rfl _ _ 24 rfl w.heap.size 32 i0 (.int .u64 0) 1 Tryz.underlying24 hi hz0 hz1 .i64 .i64 _ _ K rfl rfl (by omega) (by omega) (by rw [hz2]; omega) (by unfold maxLen; omega) (Nat.le_refl _) ?_; intro w1 hown hgrow)
        have hb1 := Blk.made hown
        have hbel : Below w.heap.size w w1 := (Below.refl _ _).grown hgrow (Nat.le_refl _) (fun k hk => by cases hk)
        have HB1 := hide hb1
        have HBE := hide hbel
        clear hown hgrow hi hz0 hz1 hz2 hb1 hbel
        have lt1 : (P.take half).length = half := by simp; omega
        have ld1 : (P.drop half).length = P.length - half := by simp
        have IH1 := ih (P.take half) R _ _ w1 (by omega) (by omega) ((HAL.out.below HBE.out).front half (by omega)) (HAS.out.below HBE.out) (HT.out.below HBE.out)
        go_wp2_with fail
        refine IH1.mono ?_
        rintro e w2 ⟨⟨v1, rs1, rfl, An1, t1, e1⟩, hb2⟩
        have mT := (HAL.out.front half (by omega)).limbs
        have mD := (HAL.out.drop half (by omega)).limbs
        have f1 := mul_fit (P.take half) R mT HMS.out.2
        have f2 := mul_fit (P.drop half) R mD HMS.out.2
        have r1 := tr_len_lt rs1 (half + R.length) (by rw [e1]; rw [lt1] at f1; exact f1)
        rw [t1] at r1
        have A1' := An1.arg (by omega)
        obtain ⟨ao, co, rfl, _, _, hlo⟩ := A1'.form
        have B2 := HB1.out.below hb2 HB1.out.lt
        obtain ⟨w3, M1, hcp, B3, L3, F3, O3, S3⟩ := copy_q w.heap.size 0 K K (List.replicate K 0) ao co rs1 w2 B2 (limbs_replicate _) An1.limbs (sv_zeros K 0 K) (by simp) (by omega) hlo
        have HB3 : Hid (Below w.heap.size w w3) := (HBE.out.trans (hb2.mono HBE.out.size)).trans (F3.below (Nat.le_refl _) (by have := HBE.out.size; have := hb2.size; omega))
        have IH2 := ih (P.drop half) R _ _ w3.drew (by omega) (by omega) ((HAL.out.below HB3.out).drop half (by omega)).drew (HAS.out.below HB3.out).drew (HT.out.below HB3.out.drew)
        have hch : ¬ K = half := by omega
        have hcl : ¬ c1 = half := by omega
        have lM : M1.length = K := by rw [O3.len]; simp
        have HM1 := hide (And.intro L3 (And.intro S3 lM))
        have HE1 := hide e1
        have HBK := hide B3
        have k1 : (0 : Int) ≤ (half : Int) := by omega
        have k2 : (half : Int) ≤ (K : Int) := by omega
        have k3 : (half : Int) ≤ (P.length : Int) := by omega
        have k4 : (half : Int) ≤ (c1 : Int) := by omega
        clear IH1 An1 hb2 A1' hlo B2 B3 L3 F3 O3 S3 lM e1 t1 mT mD f1 hN hfew
        go_wp2
        have HPP := hide (fun (w4 : World) (v2 : Value) (rs2 : List Nat) (An2 : Ans w4 w3.drew.heap.size v2 rs2) (t2 : tr rs2 = rs2) (e2 : val rs2 = val (P.drop half) * val R) (hb4 : Below w3.drew.heap.size w3.drew w4) =>
          show Calls Tryz.prog 104 #[.slice (some ⟨w.heap.size, half, none⟩) (K - half) (K - half), v2] w4 (CarryDone w.heap.size half (K - half) M1 w4 (sv M1 half (K - half) + val rs2)) by
            have r2 := tr_len_lt rs2 (P.length - half + R.length) (by rw [e2]; rw [ld1] at f2; exact f2)
            rw [t2] at r2
            have hlt4 : w.heap.size < w3.drew.heap.size := HBK.out.lt
            exact dplus_any w.heap.size half (K - half) (K - half) M1 v2 rs2 w4 (HBK.out.below (below_undrew hb4) HBK.out.lt) HM1.out.1 (An2.arg (by omega)) (fun b off n c e => by subst e; exact .inl (fun h => by have := (An2.own.lt b rfl).1; omega)) (by rw [HM1.out.2.2]; omega) (Nat.le_refl _) (by omega) (by omega))
        go_region_held3 (fun _ => True) (trivial) (first
          | (go_at_call 107; refine IH2.mono ?_; rintro e w4 ⟨⟨v2, rs2, rfl, An2, t2, e2⟩, hb4⟩)
          | (go_at_call 104; refine (HPP.out _ _ _ An2 t2 e2 hb4).mono ?_; rintro e w5 ⟨c5, M2, hc5, rfl, O5, L5, B5, F5, S5⟩))
        have l5 : M2.length = K := by rw [O5.len, HM1.out.2.2]
        have HTR := dtrim_any (some ⟨w.heap.size, 0, none⟩) K M2 w5 (by omega) (by omega) (.inr ⟨_, 0, rfl, fun j hj => by rw [Nat.zero_add]; exact B5.cell j hj⟩)
        rw [l5] at HTR
        have HVAL : Hid (val M2 = val P * val R) := by
          refine hide ?_
          obtain ⟨d, hd⟩ : ∃ d, K = half + d := ⟨K - half, by omega⟩
          have s0 := sv_split M1 0 half d (by rw [HM1.out.2.2]; omega)
          have s1 := sv_split M2 0 half d (by omega)
          have s2 := O5.sv 0 half (by omega)
          have s3 := HM1.out.2.1
          have s4 := val_halves P half (by omega)
          have s5 : sv M2 0 (half + d) = val M2 := by rw [← hd, ← l5, sv_all]
          have s6 : K - half = d := by omega
          have s7 := HFIT.out
          have s8 : P.length + R.length = half + d := by omega
          rw [s6] at S5
          rw [hd] at s3
          rw [s8, Nat.pow_add] at s7
          rw [Nat.zero_add] at s0 s1
          rw [HE1.out] at s3
          rw [e2] at S5
          rw [s4, Nat.add_mul, Nat.mul_assoc] at s7 ⊢
          rw [← s5, s1, s2]
          rw [s0] at s3
          generalize val (P.take half) * val R = a at *
          generalize val (P.drop half) * val R = b at *
          generalize sv M1 0 half = x at *
          generalize sv M1 half d = y at *
          generalize sv M2 half d = z at *
          generalize (18446744073709551616 : Nat) ^ half = W at *
          generalize (18446744073709551616 : Nat) ^ d = V at *
          have t1 : W * z + W * (c5 * V) = W * y + W * b := by rw [← Nat.mul_add, ← Nat.mul_add, S5]
          have t2 : W * (c5 * V) = c5 * (W * V) := by rw [← Nat.mul_assoc, Nat.mul_comm W c5, Nat.mul_assoc]
          rw [t2] at t1
          rcases (by omega : c5 = 0 ∨ c5 = 1) with rfl | rfl
          · omega
          · omega
        have HEND : Hid (ProdDone w (val P * val R) (.returned (.slice (some ⟨w.heap.size, 0, none⟩) (tr M2).length K)) w5) := by
          have hb5 : Below w.heap.size w w4 := HB3.out.trans ((below_undrew hb4).mono HB3.out.size)
          have AM := (Ans.of_blk (base := w.heap.size) (zs := M2) (Nat.le_refl _) B5 List.take_length.symm (Nat.le_refl _) (by omega) L5).trim
          rw [l5] at AM
          exact ⟨⟨_, tr M2, rfl, AM, tr_tr _, by rw [val_tr]; exact HVAL.out⟩, hb5.trans (F5.below (Nat.le_refl _) hb5.size)⟩
        clear An2 t2 e2 hb4 O5 L5 B5 F5 S5 HVAL HPP IH2 hcp
        go_wp2_with fail
        refine HTR.mono ?_
        rintro e w6 ⟨rfl, hw⟩; subst hw
        clear HTR
        go_wp2
        go_ret
        exact HEND.out

end Go.Proofs.YtppblbhkghjphaaGreatDoor
