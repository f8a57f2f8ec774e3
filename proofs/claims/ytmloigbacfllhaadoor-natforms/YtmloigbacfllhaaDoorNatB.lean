/- Package nat: Length, answer, Add. -/
import Derived.Test.YtmloigbacfllhaaDoorMem
import Derived.Test.YtmloigbacfllhaaDoorPure2
namespace Go.Proofs.YtmloigbacfllhaaDoor
open Go.RowKit
open Lm


theorem length_any (v : Value) (zs : List Nat) (w : World) (h : Arg w v zs) :
    Calls Tryd.prog 16 #[v] w fun e w' => e = .returned (.int .i64 ((bl zs : Nat) : Int)) ∧ w' = w := by
  obtain ⟨ao, cap, rfl, hcap, hmax, hl⟩ := h.form
  have hle := tr_length_le zs
  have hlt := hl.tr
  have hlm := limbs_tr h.limbs
  have hfew := h.few
  by_cases h0 : tr zs = []
  · have e : bl zs = 0 := by simp [bl, h0]
    rw [e]
    have hn : (((tr zs).length : Int) == 0) = true := by simp [h0]
    clear e
    go_enter Tryd.func16, Tryd.ntmps16
    go_wp2_with fail
    refine (trim_any ao cap zs w hcap hmax hl).mono ?_
    rintro e w' ⟨rfl, rfl⟩
    go_wp2
    go_ret
    exact ⟨rfl, rfl⟩
  · rcases hlt with h1 | ⟨b, off, rfl, hc⟩
    · exact absurd h1 h0
    · have hpos : 0 < (tr zs).length := List.length_pos_iff.2 h0
      obtain ⟨n, hn⟩ : ∃ n, (tr zs).length = n + 1 := ⟨(tr zs).length - 1, by omega⟩
      have hcn := hc n (by omega)
      have hzn := limb_lt hlm n
      have e : bl zs = n * 64 + Lib.bitLen ((tr zs).getD n 0) := by simp [bl, h0, hn]
      rw [e]
      have htr := trim_any (some ⟨b, off, none⟩) cap zs w hcap hmax hl
      rw [hn] at htr
      generalize (tr zs).getD n 0 = z at *
      have hb := Lib.bitLen_le z 64 (by omega) (by omega)
      generalize hy : Lib.bitLen z = y at *
      have HY : Hid (Lib.bitLen z = y) := hy
      clear hy
      have HC := htr
      clear htr e h0 hc hl
      go_enter Tryd.func16, Tryd.ntmps16
      go_wp2_with fail
      refine HC.mono ?_
      rintro e w' ⟨rfl, rfl⟩
      go_wp2_with fail
      refine (Tryd.bits_Len64 _ _ (by omega) (by omega)).mono ?_
      rintro e w' ⟨rfl, rfl⟩
      rw [Int.toNat_natCast, HY.out]
      go_wp2
      go_ret
      exact ⟨by go_num, rfl⟩

theorem length_val (v : Value) (zs : List Nat) (w : World) (h : Arg w v zs) :
    Calls Tryd.prog 16 #[v] w fun e w' => e = .returned (.int .i64 ((blen (val zs) : Nat) : Int)) ∧ w' = w := by
  rw [← bl_eq h.limbs]; exact length_any v zs w h

/-- What a call answers whose number is s: the number, in new memory, or that it is too great. -/
def Res (w : World) (base : Nat) (e : Ending) (s : Nat) : Prop :=
  ∃ v c rs, e = .returned (.tuple #[v, .int .i64 c]) ∧ Ans w base v rs ∧ ((c = 0 ∧ val rs = s ∧ tr rs = rs ∧ blen s ≤ 67108864) ∨ (c = 3 ∧ rs = [] ∧ 67108864 < blen s))

theorem answer_own (v : Value) (base : Nat) (xs : List Nat) (w : World) (h : Ans w base v xs) (hf : xs.length ≤ 1125899906842624) :
    Calls Tryd.prog 64 #[v] w fun e w' => w' = w ∧ Res w base e (val xs) := by
  have ha := h.arg hf
  obtain ⟨ao, cap, rfl, hcap, hmax, hlies⟩ := ha.form
  have hle := tr_length_le xs
  have ht := ha.trim
  have H1 := trim_any _ cap xs w hcap hmax hlies
  have H2 := length_val _ _ _ ht
  rw [val_tr] at H2
  have HA : Hid (Ans w base (.slice ao (tr xs).length cap) (tr xs)) := h.trim
  have HT : Hid (tr (tr xs) = tr xs ∧ val (tr xs) = val xs) := ⟨tr_tr xs, val_tr xs⟩
  unfold Res
  generalize tr xs = T at *
  generalize val xs = V at *
  generalize blen V = y at *
  clear ht hlies h ha
  by_cases hy : y ≤ 67108864
  · go_enter Tryd.func64, Tryd.ntmps64
    go_wp2_with fail
    refine H1.mono ?_
    rintro e w' ⟨rfl, rfl⟩
    go_wp2_with fail
    refine H2.mono ?_
    rintro e w' ⟨rfl, rfl⟩
    go_wp2
    go_ret2
    exact ⟨rfl, _, _, T, rfl, HA.out, .inl ⟨rfl, HT.out.2, HT.out.1, hy⟩⟩
  · go_enter Tryd.func64, Tryd.ntmps64
    go_wp2_with fail
    refine H1.mono ?_
    rintro e w' ⟨rfl, rfl⟩
    go_wp2_with fail
    refine H2.mono ?_
    rintro e w' ⟨rfl, rfl⟩
    go_wp2
    go_ret2
    exact ⟨rfl, _, _, [], rfl, Ans.nil _ _, .inr ⟨rfl, rfl, by omega⟩⟩

theorem answer_blk (g base : Nat) (xs : List Nat) (w : World) (hb : Blk w g xs) (hl : Limbs xs) (hg : base ≤ g) (hf : xs.length ≤ 1125899906842624) :
    Calls Tryd.prog 64 #[.slice (some ⟨g, 0, none⟩) xs.length xs.length] w fun e w' => w' = w ∧ Res w base e (val xs) :=
  answer_own _ base xs w (Ans.of_blk hg hb List.take_length.symm (Nat.le_refl _) (by omega) hl) hf

end Go.Proofs.YtmloigbacfllhaaDoor
