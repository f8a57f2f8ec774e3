/- The law's own example. -/
import Derived.Test.YtlphlcmlkibmjaaDoorQC
import Derived.Test.YtlphlcmlkibmjaaDoorQG
import Derived.Test.YtlphlcmlkibmjaaDoorQA
namespace Go.Proofs.YtlphlcmlkibmjaaDoor
open Go.RowKit
open Lm

theorem Blk.lits (w : World) (zs : List Nat) (cs : Array Value) (t : TypeId) (ht : t = 47) (h : cs = (zs.map lv).toArray) : Blk (w.alloc (.cells cs t)) w.heap.size zs := by
  subst h; subst ht
  unfold Blk
  rw [heap_alloc_new]

theorem Arg.lits (w : World) (zs : List Nat) (cs : Array Value) (n : Nat) (hn : n = zs.length) (h : cs = (zs.map lv).toArray) (hl : Limbs zs) (hf : zs.length ≤ 1000) : Arg (w.alloc (.cells cs 47)) (.slice (some ⟨w.heap.size, 0, none⟩) n n) zs := by
  subst hn
  have hb := Blk.lits w zs cs _ rfl h
  exact ⟨⟨_, _, rfl, Nat.le_refl _, by omega, .inr ⟨_, 0, rfl, fun k hk => by rw [Nat.zero_add]; exact hb.cell k hk⟩⟩, hl, by omega, fun n c e => by cases e⟩

theorem awake_val : val [0, 1] * val [7, 3] = val [0, 7, 3] := by decide

theorem num_any (c : Int) (w : World) : Calls Tryd.prog 33 #[.int .i64 c] w fun e w' => e = .returned (.int .i64 c) ∧ w' = w := by
  go_enter Tryd.func33, Tryd.ntmps33
  go_wp2
  go_ret
  exact ⟨rfl, rfl⟩

set_option maxHeartbeats 800000 in
theorem awake_any (w : World) (hT : Tab w) : Calls Tryd.prog 15 #[] w fun e w' => e = .returned (.bool true) ∧ Below w.heap.size w w' := by
  have HT := hide hT
  clear hT
  go_enter Tryd.func15, Tryd.ntmps15
  go_wp2_with fail
  have hs1 : (w.alloc (.cells #[.int .u64 0, .int .u64 1] 47)).heap.size = w.heap.size + 1 := by simp
  have hA := (Arg.lits w [0, 1] #[.int .u64 0, .int .u64 1] 2 rfl rfl (by intro z hz; simp at hz; omega) (by simp)).more (.cells #[.int .u64 7, .int .u64 3] 47)
  have hA2 := Arg.lits (w.alloc (.cells #[.int .u64 0, .int .u64 1] 47)) [7, 3] #[.int .u64 7, .int .u64 3] 2 rfl rfl (by intro z hz; simp at hz; omega) (by simp)
  rw [hs1] at hA2
  have hb0 : Below w.heap.size w ((w.alloc (.cells #[.int .u64 0, .int .u64 1] 47)).alloc (.cells #[.int .u64 7, .int .u64 3] 47)) := ((Below.refl _ _).alloc (Nat.le_refl _) _).alloc (by rw [hs1]; omega) _
  have hI : IntoOk 40 200 ((tr [0, 1]).drop (low0 (tr [0, 1]))) ((tr [7, 3]).drop (low0 (tr [7, 3]))) := by
    rw [show (tr [0, 1]).drop (low0 (tr [0, 1])) = [1] by decide, show (tr [7, 3]).drop (low0 (tr [7, 3])) = [7, 3] by decide]
    exact into_ok_school 40 200 [1] [7, 3] (.inl ⟨by decide, by decide, by decide⟩)
  refine (mul_pos _ _ [0, 1] [7, 3] _ hA hA2 (HT.out.below hb0) (by decide) (by decide) (by simp) hI).mono ?_
  rintro e w1 ⟨hb, v, c, rs, rfl, hans, hres⟩
  have hb1 : Below w.heap.size w w1 := hb0.trans (hb.mono hb0.size)
  rw [awake_val] at hres
  have hbl : blen (val [0, 7, 3]) ≤ 192 := (blen_le_iff _ _).2 (by decide)
  rcases hres with ⟨rfl, hv, ht, _⟩ | ⟨_, _, hbad⟩
  · have hlr : rs.length ≤ 3 := by
      have := few_limbs rs 3 (by rw [hv]; omega)
      rwa [ht] at this
    have HA := hide (hans.arg (by omega))
    have HB := hide hb1
    have HV := hide (And.intro hv ht)
    have HBL := hide hbl
    clear hans hv ht hb hb0 hb1 hA hA2 hI hs1 hbl
    go_wp2_with fail
    refine (num_any 0 w1).mono ?_
    rintro e w2 ⟨rfl, hw⟩; subst hw
    go_wp2_with fail
    have hA3 := Arg.lits w2 [0, 7, 3] #[.int .u64 0, .int .u64 7, .int .u64 3] 3 rfl rfl (by intro z hz; simp at hz; omega) (by simp)
    refine (of_any _ [0, 7, 3] _ hA3 (by simp)).mono ?_
    rintro e w3 ⟨⟨vn, rfl, hn⟩, hb3⟩
    have hb2 : Below w2.heap.size w2 w3 := ((Below.refl _ _).alloc (Nat.le_refl _) _).trans (hb3.mono (by simp))
    have HI := is_true vn v (val [0, 7, 3]) rs w3 hn (HA.out.below hb2) HV.out.2 HV.out.1 (by have := HBL.out; omega)
    have HB3 : Hid (Below w.heap.size w w3) := HB.out.trans (hb2.mono HB.out.size)
    clear hA3 hn hb3 hb2 HA HV HB
    go_wp2_with fail
    refine HI.mono ?_
    rintro e w4 ⟨rfl, hb4⟩
    have HB4 : Hid (Below w.heap.size w w4) := HB3.out.trans (hb4.mono HB3.out.size)
    clear hb4 HI
    go_wp2
    go_ret
    exact ⟨rfl, HB4.out⟩
  · omega

end Go.Proofs.YtlphlcmlkibmjaaDoor
