/- The walk of the law DivGcds, of lists that aren't long. -/
import Derived.Test.YtelfjadonlgkiaaDoorQO
import Derived.Test.YtelfjadonlgkiaaDoorQM
import Derived.Test.YtelfjadonlgkiaaDoorQH
namespace Go.Proofs.YtelfjadonlgkiaaDoor
open Go.RowKit
open Lm

set_option maxRecDepth 100000 in
set_option maxHeartbeats 4000000 in
theorem divGcds_walk (v0 : Value) (z0 : List Nat) (v1 : Value) (z1 : List Nat) (w : World) (hT : Tab w) (A0 : Arg w v0 z0) (s0 : z0.length ≤ 1048576) (A1 : Arg w v1 z1) (s1 : z1.length ≤ 1048576) :
    Calls Tryd.prog 5 #[v0, v1] w fun e w' => e = .returned (.bool true) ∧ Below w.heap.size w w' := by
  have H : Hid (Below w.heap.size w w) := Below.refl _ _
  have bx : blen (val z0) ≤ 67108864 := by have := blen_val_le z0 A0.limbs; omega
  have by' : blen (val z1) ≤ 67108864 := by have := blen_val_le z1 A1.limbs; omega
  have HT := hide hT
  clear hT
  go_enter Tryd.func5, Tryd.ntmps5
  go_wp2_with fail
  refine (lend_ok _ _ _ A0 (by omega)).mono ?_
  rintro e w0 ⟨⟨vw, vp, rfl, Lw, Ap⟩, hb⟩
  replace H := hid_below H hb; replace A0 := A0.below hb; replace A1 := A1.below hb; clear hb
  have HO := of_any _ _ _ A0 (by omega)
  go_wp2_with fail
  refine HO.mono ?_
  rintro e w2 ⟨⟨vx, rfl, Nx⟩, hb⟩
  replace H := hid_below H hb; replace A0 := A0.below hb; replace A1 := A1.below hb; replace Lw := Lw.below hb; replace Ap := Ap.below hb
  clear hb HO
  have HO := of_any _ _ _ A1 (by omega)
  go_wp2_with fail
  refine HO.mono ?_
  rintro e w3 ⟨⟨vy, rfl, Ny⟩, hb⟩
  replace H := hid_below H hb; replace A0 := A0.below hb; replace A1 := A1.below hb; replace Lw := Lw.below hb; replace Ap := Ap.below hb
  replace Nx := Nx.below hb
  clear hb HO
  have S3 := hide (And.intro Lw (And.intro A0 H.out))
  have HG := gcd_any vp v1 z0 z1 w3 Ap A1 (HT.out.below H.out) (by omega) (by omega)
  go_wp2_with fail
  refine HG.mono ?_
  rintro e w4 ⟨⟨vg, gs, rfl, Ag, tg, eg⟩, hb⟩
  have lg : gs.length ≤ 1048576 := by
    rcases Nat.eq_zero_or_pos (val z0) with h0 | h0
    · have h := tr_len_lt gs z1.length (by rw [eg, h0, Nat.gcd_zero_left]; exact val_lt A1.limbs)
      rw [tg] at h
      omega
    · have h := tr_len_lt gs z0.length (by rw [eg]; exact Nat.lt_of_le_of_lt (Nat.gcd_le_left _ h0) (val_lt A0.limbs))
      rw [tg] at h
      omega
  obtain ⟨og, ng, cg, rfl⟩ := Ag.slice
  replace H := hid_below H hb; replace A0 := A0.below hb; replace A1 := A1.below hb; replace Lw := Lw.below hb; replace Ap := Ap.below hb
  replace Nx := Nx.below hb
  replace Ny := Ny.below hb
  have HW3 := hide hb
  have Ch := Chain.one Ag hb.size
  clear hb HG
  have HL := lcm_any vp v1 z0 z1 w4 Ap A1 (HT.out.below H.out) (by omega) (by omega)
  go_wp2_with fail
  refine HL.mono ?_
  rintro e w5 ⟨hb, vl, cl, ls, rfl, Al, hl⟩
  have ll : ls.length ≤ 1048576 := Res.few Al hl
  obtain ⟨ol, nl, cl', rfl⟩ := Al.slice
  replace Ag := Ag.below hb
  have Ch2 := Chain.snoc hb Al Ch HW3.out.size
  have HW5 := hide (HW3.out.trans (hb.mono HW3.out.size))
  replace H := hid_below H hb; replace A0 := A0.below hb; replace A1 := A1.below hb; replace Lw := Lw.below hb; replace Ap := Ap.below hb
  replace Nx := Nx.below hb
  replace Ny := Ny.below hb
  clear hb HL Ch
  have RG := rgcd_any vx vy _ _ w5 Nx Ny (by omega) (by omega)
  go_wp2_with fail
  refine RG.mono ?_
  rintro e w6 ⟨⟨vn, rfl, Nn⟩, hb⟩
  have bg : blen (Nat.gcd (val z0) (val z1)) ≤ 67108864 := by
    rw [← eg]
    have := blen_val_le gs Ag.limbs
    omega
  have HIS := is_true vn _ _ gs w6 Nn ((Ag.arg (by omega)).below hb) tg eg (by omega)
  replace Al := Al.below hb
  replace Ch2 := Ch2.below hb
  replace HW5 := hide (HW5.out.trans (hb.mono HW5.out.size))
  replace H := hid_below H hb; replace A0 := A0.below hb; replace A1 := A1.below hb; replace Lw := Lw.below hb; replace Ap := Ap.below hb
  replace Nx := Nx.below hb
  replace Ny := Ny.below hb
  clear hb RG Nn Ag
  go_wp2_with fail
  refine HIS.mono ?_
  rintro e w7 ⟨rfl, hb⟩
  replace Al := Al.below hb
  replace Ch2 := Ch2.below hb
  replace HW5 := hide (HW5.out.trans (hb.mono HW5.out.size))
  replace H := hid_below H hb; replace A0 := A0.below hb; replace A1 := A1.below hb; replace Lw := Lw.below hb; replace Ap := Ap.below hb
  replace Nx := Nx.below hb
  replace Ny := Ny.below hb
  clear hb HIS
  have RL := rlcm_any vx vy _ _ w7 Nx Ny (by omega)
  go_wp2_with fail
  refine RL.mono ?_
  rintro e w8 ⟨⟨vm, rfl, Nm⟩, hb⟩
  replace Al := Al.below hb
  replace Ch2 := Ch2.below hb
  replace HW5 := hide (HW5.out.trans (hb.mono HW5.out.size))
  replace H := hid_below H hb; replace A0 := A0.below hb; replace A1 := A1.below hb; replace Lw := Lw.below hb; replace Ap := Ap.below hb
  clear hb RL Nx Ny
  have HSM := same3_ok _ vm cl ls _ _ w8 Al ll hl Nm
  have HTG := hide (And.intro lg ll)
  clear hl Nm Al lg ll tg eg bg
  go_wp2_with fail
  refine HSM.mono ?_
  rintro e w9 ⟨rfl, hb⟩
  replace Ch2 := Ch2.below hb
  replace HW5 := hide (HW5.out.trans (hb.mono HW5.out.size))
  replace H := hid_below H hb; replace A0 := A0.below hb; replace A1 := A1.below hb; replace Lw := Lw.below hb; replace Ap := Ap.below hb
  clear hb HSM
  have HOW := own_chain w3.heap.size [_, _] [gs, ls] w9 Ch2 (by simp) (by intro r hr; simp at hr; have := HTG.out; rcases hr with rfl | rfl <;> omega) HW5.out.size
  go_wp2_with fail
  refine HOW.mono ?_
  rintro e w10 ⟨rfl, hb⟩
  have HW10 := hide (HW5.out.trans hb)
  have HK := kept_ok _ _ _ w10 (S3.out.1.below HW10.out) (S3.out.2.1.below HW10.out) (by omega)
  have H10 := hide (S3.out.2.2.trans (HW10.out.mono S3.out.2.2.size))
  clear hb HOW Ch2 A0 A1 Lw Ap
  go_wp2_with fail
  refine HK.mono ?_
  rintro e wn ⟨rfl, hw⟩; rw [hw]; clear hw wn HK
  have HA := lives3_any w10 (HT.out.below H10.out)
  go_wp2_with fail
  refine HA.mono ?_
  rintro e w11 ⟨rfl, hb⟩
  replace H10 := hid_below H10 hb
  clear hb HA
  go_wp2
  go_ret
  exact ⟨rfl, H10.out⟩

end Go.Proofs.YtelfjadonlgkiaaDoor
