/- Bits: math\bits' OnesCount64, package nat's Count. -/
import Derived.Test.YtmloigbacfllhaaDoorPopP
import Derived.Test.YtmloigbacfllhaaDoorNatD
import Derived.Test.YtmloigbacfllhaaDoorShift
import Derived.Laws.Bits128
namespace Go.Proofs.YtmloigbacfllhaaDoor
open Go.RowKit
open Lm
attribute [local go_sem ↓] Go.wp_at_zero Go.wp_at_succ

theorem rep85 : repB 85 8 = 6148914691236517205 := by decide
theorem rep51 : repB 51 8 = 3689348814741910323 := by decide
theorem rep15 : repB 15 8 = 1085102592571150095 := by decide

theorem dm_lt (g : Nat → Nat) (c : Nat) (h : ∀ b, b < 256 → g b ≤ c) (n x : Nat) : dm g n x ≤ repB c n := by
  induction n generalizing x with
  | zero => simp [dm, repB]
  | succ n ih => have := h (x % 256) (by omega); have := ih (x / 256); simp only [dm, repB]; omega

theorem g1_le : ∀ b : Fin 256, g1 b.1 ≤ 170 := by decide +kernel
theorem g2_le : ∀ b : Fin 256, g2 b.1 ≤ 68 := by decide +kernel

set_option maxRecDepth 20000 in
set_option maxHeartbeats 400000 in
theorem ones_any (x : Nat) (w : World) (hx : x < 18446744073709551616) :
    Calls Tryd.prog 48 #[.int .u64 x] w fun e w' => e = .returned (.int .i64 ((pcb 64 x : Nat) : Int)) ∧ w' = w := by
  obtain ⟨x1, x2, e1, e2, e3, d1, d2⟩ := pop_three 8 x
  rw [rep85] at e1
  rw [rep51] at e2
  rw [rep15] at e3
  obtain ⟨y4, y5, y6, f4, f5, f6, f7, l4, l5, l6⟩ := dm_sum x hx
  obtain ⟨x3, h3⟩ : ∃ x3, x3 = dm (fun b => pcb 8 b) 8 x := ⟨_, rfl⟩
  rw [← h3] at e3 f4
  have b1 : x1 ≤ 12297829382473034410 := by rw [d1]; exact Nat.le_trans (dm_lt g1 170 (fun b hb => g1_le ⟨b, hb⟩) 8 x) (by decide)
  have b2 : x2 ≤ 4919131752989213764 := by rw [d2]; exact Nat.le_trans (dm_lt g2 68 (fun b hb => g2_le ⟨b, hb⟩) 8 x) (by decide)
  have b3 : x3 ≤ 578721382704613384 := by rw [h3]; exact Nat.le_trans (dm_lt _ 8 (fun b hb => pcb8_le ⟨b, hb⟩) 8 x) (by decide)
  have a1 : bits BinOp.and IntKind.u64 ((x : Int) / 2) 6148914691236517205 = (((x / 2) &&& 6148914691236517205 : Nat) : Int) := bits_and_u64_nat (x / 2) 6148914691236517205 (by omega) (by omega)
  have a2 : bits BinOp.and IntKind.u64 (x : Int) 6148914691236517205 = ((x &&& 6148914691236517205 : Nat) : Int) := bits_and_u64_nat x 6148914691236517205 (by omega) (by omega)
  have a3 : bits BinOp.and IntKind.u64 ((x1 : Int) / 4) 3689348814741910323 = (((x1 / 4) &&& 3689348814741910323 : Nat) : Int) := bits_and_u64_nat (x1 / 4) 3689348814741910323 (by omega) (by omega)
  have a4 : bits BinOp.and IntKind.u64 (x1 : Int) 3689348814741910323 = ((x1 &&& 3689348814741910323 : Nat) : Int) := bits_and_u64_nat x1 3689348814741910323 (by omega) (by omega)
  obtain ⟨p1, hp1⟩ : ∃ p, p = (x / 2) &&& 6148914691236517205 := ⟨_, rfl⟩
  obtain ⟨p2, hp2⟩ : ∃ p, p = x &&& 6148914691236517205 := ⟨_, rfl⟩
  obtain ⟨p3, hp3⟩ : ∃ p, p = (x1 / 4) &&& 3689348814741910323 := ⟨_, rfl⟩
  obtain ⟨p4, hp4⟩ : ∃ p, p = x1 &&& 3689348814741910323 := ⟨_, rfl⟩
  obtain ⟨t, ht⟩ : ∃ t, t = x2 / 16 + x2 := ⟨_, rfl⟩
  rw [← hp1] at a1 e1
  rw [← hp2] at a2 e1
  rw [← hp3] at a3 e2
  rw [← hp4] at a4 e2
  rw [← ht] at e3
  have a5 : bits BinOp.and IntKind.u64 (t : Int) 1085102592571150095 = (x3 : Int) := by rw [← e3]; exact bits_and_u64_nat t 1085102592571150095 (by omega) (by omega)
  have s1 : (p1 : Int) + (p2 : Int) = (x1 : Int) := by omega
  have s2 : (p3 : Int) + (p4 : Int) = (x2 : Int) := by omega
  have s3 : (x2 : Int) / 16 + (x2 : Int) = (t : Int) := by omega
  have s4 : (x3 : Int) + (x3 : Int) / 256 = (y4 : Int) := by omega
  have s5 : (y4 : Int) + (y4 : Int) / 65536 = (y5 : Int) := by omega
  have s6 : (y5 : Int) + (y5 : Int) / 4294967296 = (y6 : Int) := by omega
  have HF := hide f7
  have lp1 : p1 < 18446744073709551616 := by omega
  have lp2 : p2 < 18446744073709551616 := by omega
  have lp3 : p3 < 18446744073709551616 := by omega
  have lp4 : p4 < 18446744073709551616 := by omega
  have lt : t < 18446744073709551616 := by omega
  clear e1 e2 e3 d1 d2 f4 f5 f6 f7 h3 hp1 hp2 hp3 hp4 ht
  go_enter Tryd.func48, Tryd.ntmps48
  go_wp2
  go_ret
  refine ⟨?_, rfl⟩
  show Ending.returned (.int .i64 (bits BinOp.and IntKind.i64 (y6 : Int) 127)) = _
  rw [i64_and127]
  exact congrArg (fun i => Ending.returned (Value.int IntKind.i64 i)) (by have := HF.out; omega)

/-- The bits 1 of all limbs. -/
def pcs : List Nat → Nat
  | [] => 0
  | z :: r => pcb 64 z + pcs r

theorem pcs_le (zs : List Nat) : pcs zs ≤ 64 * zs.length := by
  induction zs with
  | nil => simp [pcs]
  | cons z r ih => have := pcb_le 64 z; simp only [pcs, List.length_cons]; omega

theorem pcs_append (a b : List Nat) : pcs (a ++ b) = pcs a + pcs b := by
  induction a with
  | nil => simp [pcs]
  | cons z r ih => simp only [List.cons_append, pcs, ih]; omega

theorem pcs_take_succ (zs : List Nat) (k : Nat) (h : k < zs.length) : pcs (zs.take (k + 1)) = pcs (zs.take k) + pcb 64 (zs.getD k 0) := by
  rw [List.take_succ_eq_append_getElem h, pcs_append]
  simp [pcs, List.getD, h]

set_option maxHeartbeats 400000 in
theorem count_any (v : Value) (X : List Nat) (w : World) (hA : Arg w v X) :
    Calls Tryd.prog 22 #[v] w fun e w' => e = .returned (.int .i64 ((pcs X : Nat) : Int)) ∧ w' = w := by
  obtain ⟨a1, c1, rfl, hcc1, hcm1, hl1⟩ := hA.form
  have M1 := hA.limbs
  have hX := hA.few
  clear hA
  go_enter Tryd.func22, Tryd.ntmps22
  go_wp2
  go_loopw [3, 8] (fun n i wr => ∃ k : Nat, k ≤ X.length ∧ i = .int .i64 k ∧ n = .int .i64 ((pcs (X.take k) : Nat) : Int) ∧ wr = w) (fun _ i _ => X.length - (intOf i).toNat)
  case atStart => exact ⟨0, Nat.zero_le _, rfl, rfl, rfl⟩
  case round =>
    obtain ⟨k, hk, rfl, rfl, rfl⟩ := hrel
    by_cases hkl : k < X.length
    · rcases hl1 with h0 | ⟨b, off, rfl, hcell⟩
      · rw [h0] at hkl; simp at hkl
      · have hck := hcell k hkl
        have z1 := limb_lt M1 k
        have HO := ones_any (X.getD k 0) wr z1
        have HS := hide (pcs_take_succ X k hkl)
        have l1 := pcs_le (X.take k)
        have l2 : (X.take k).length ≤ k := List.length_take_le _ _
        have l3 := pcb_le 64 (X.getD k 0)
        generalize X.getD k 0 = x at *
        generalize hp : pcb 64 x = p at *
        generalize hs : pcs (X.take k) = s at *
        have HP := hide hp
        have HSS := hide hs
        clear hp hs hcell
        go_wp2_with fail
        refine HO.mono ?_
        rintro e w2 ⟨rfl, hw⟩; subst hw
        clear HO
        go_wp2
        go_roundw
        case rel => exact ⟨k + 1, by omega, by go_num, by rw [HS.out]; go_num, trivial⟩
        case measure => simp [intOf]; omega
    · have ek : X.take k = X := List.take_of_length_le (by omega)
      rw [ek]
      clear hl1 ek
      go_wp2
      go_ret
      exact ⟨rfl, rfl⟩

end Go.Proofs.YtmloigbacfllhaaDoor
