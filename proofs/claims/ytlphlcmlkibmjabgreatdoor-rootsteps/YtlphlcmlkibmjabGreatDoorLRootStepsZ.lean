/- The walk of the law RootSteps. -/
import Derived.Test.YtlphlcmlkibmjabGreatDoorQS
import Derived.Test.YtlphlcmlkibmjabGreatDoorQG
import Derived.Test.YtlphlcmlkibmjabGreatDoorRootBZ
import Derived.Test.YtlphlcmlkibmjabGreatDoorQH
namespace Go.Proofs.YtlphlcmlkibmjabGreatDoor
open Go.RowKit
open Lm
attribute [local go_sem ↓] Go.wp_at_zero Go.wp_at_succ

theorem alike4_err (ao : Option Addr) (cap : Nat) (vn : Value) (c : Int) (w : World) (hc : c ≠ 0) :
    Calls Tryz.prog 12 #[.slice ao 0 cap, .int .i64 c, vn, .int .i64 c] w fun e w' => e = .returned (.bool true) ∧ w' = w := by
  have hd : (c == 0) = false := by rw [beq_eq_false_iff_ne]; exact hc
  have HN := num4_any c w
  clear hc
  go_enter Tryz.func12, Tryz.ntmps12
  go_wp2_with fail
  refine HN.mono ?_
  rintro e w2 ⟨rfl, hw⟩; subst hw
  clear HN
  go_wp2
  go_ret
  exact ⟨rfl, rfl⟩

theorem alike4_val (va vn : Value) (rs : List Nat) (s : Nat) (w : World) (hA : Arg w va rs) (hn : Num w vn s) (hv : val rs = s) (ht : tr rs = rs) (hs : blen s ≤ 1125899906842624) :
    Calls Tryz.prog 12 #[va, .int .i64 0, vn, .int .i64 0] w fun e w' => e = .returned (.bool true) ∧ Below w.heap.size w w' := by
  have HI := is_true vn va s rs w hn hA ht hv hs
  have HN := num4_any 0 w
  clear hA hn hv ht hs
  go_enter Tryz.func12, Tryz.ntmps12
  go_wp2_with fail
  refine HN.mono ?_
  rintro e w2 ⟨rfl, hw⟩; subst hw
  clear HN
  go_wp2_with fail
  refine HI.mono ?_
  rintro e w3 ⟨rfl, hb⟩
  have HB := hide hb
  clear hb HI
  go_wp2
  go_ret
  exact ⟨rfl, HB.out⟩

theorem alike4_ok (va vn : Value) (c f : Int) (rs : List Nat) (s base : Nat) (w : World) (hA : Ans w base va rs) (hl : rs.length ≤ 1048576) (h : (c = 0 ∧ val rs = s ∧ tr rs = rs ∧ blen s ≤ 67108864) ∨ (c = 3 ∧ rs = [] ∧ 67108864 < blen s)) (hn : (f = 0 ∧ Num w vn s ∧ blen s ≤ 67108864) ∨ (f = 3 ∧ vn = .slice none 0 0 ∧ 67108864 < blen s)) :
    Calls Tryz.prog 12 #[va, .int .i64 c, vn, .int .i64 f] w fun e w' => e = .returned (.bool true) ∧ Below w.heap.size w w' := by
  rcases h with ⟨rfl, hv, ht, hs⟩ | ⟨rfl, rfl, hs⟩
  · rcases hn with ⟨rfl, hn, _⟩ | ⟨_, _, h⟩
    · exact alike4_val va vn rs s w (hA.arg (by omega)) hn hv ht (by omega)
    · omega
  · rcases hn with ⟨_, _, h⟩ | ⟨rfl, _, _⟩
    · omega
    · obtain ⟨ao, cap, rfl, _⟩ := (hA.arg (by simp)).form
      refine (alike4_err ao cap vn 3 w (by omega)).mono ?_
      rintro e w2 ⟨rfl, hw⟩; subst hw
      exact ⟨rfl, Below.refl _ _⟩

/-- The document's answer, or its error. -/
def TellN (w : World) (vn : Value) (f : Int) (s : Nat) : Prop := (f = 0 ∧ Num w vn s ∧ blen s ≤ 67108864) ∨ (f = 3 ∧ vn = .slice none 0 0 ∧ 67108864 < blen s)

theorem told4_any (v : Value) (x : Nat) (w : World) (h : Num w v x) : Calls Tryz.prog 33 #[v, .slice none 0 0] w fun e w' => w' = w ∧ ∃ vn v2 f, e = .returned (.tuple #[vn, v2, .int .i64 f]) ∧ TellN w vn f x := by
  have H := len_any v x w h
  have H0 := len_any _ 0 w (Num.nil w)
  rw [show blen 0 = 0 from (blen_zero_iff 0).2 rfl] at H0
  have HN := hide h
  unfold TellN
  clear h
  generalize blen x = y at *
  by_cases hy : y ≤ 67108864
  · have hd : decide ((67108864 : Int) < (y : Int)) = false := decide_eq_false (by omega)
    go_enter Tryz.func33, Tryz.ntmps33
    go_wp2_with fail
    refine H.mono ?_
    rintro e w1 ⟨rfl, hw⟩; rw [hw]; clear hw
    go_wp2_with fail
    refine H0.mono ?_
    rintro e w1 ⟨rfl, hw⟩; rw [hw]; clear hw
    clear H H0
    go_wp2
    go_returns
    exact ⟨rfl, _, _, _, rfl, .inl ⟨rfl, HN.out, hy⟩⟩
  · have hd : (67108864 : Int) < (y : Int) := by omega
    go_enter Tryz.func33, Tryz.ntmps33
    go_wp2_with fail
    refine H.mono ?_
    rintro e w1 ⟨rfl, hw⟩; rw [hw]; clear hw
    clear H H0
    go_wp2
    go_returns
    exact ⟨rfl, _, _, _, rfl, .inr ⟨rfl, rfl, by omega⟩⟩

theorem refStep_zero (v1 v2 : Value) (w : World) (h2 : Num w v2 0) : Calls Tryz.prog 19 #[v1, v2] w fun e w' => e = .returned (.tuple #[.slice none 0 0, .int .i64 30]) ∧ w' = w := by
  have HZ := zero_any v2 0 w h2
  clear h2
  go_enter Tryz.func19, Tryz.ntmps19
  go_wp2_with fail
  refine HZ.mono ?_
  rintro e w1 ⟨rfl, hw⟩; rw [hw]; clear hw
  go_wp2
  go_ret2
  exact ⟨rfl, rfl⟩

theorem refStep_any (v1 v2 : Value) (x y : Nat) (w : World) (h1 : Num w v1 x) (h2 : Num w v2 y) (hy : 0 < y) (b1 : blen x ≤ 1125899906809856) (b2 : blen y ≤ 1125899906809856) :
    Calls Tryz.prog 19 #[v1, v2] w fun e w' => (∃ vn f, e = .returned (.tuple #[vn, .int .i64 f]) ∧ TellN w' vn f ((y + x / y) / 2)) ∧ Below w.heap.size w w' := by
  have HZ := zero_any v2 y w h2
  have hyz : (y == 0) = false := by rw [beq_eq_false_iff_ne]; omega
  rw [hyz] at HZ
  have HD := rdiv_any v1 v2 x y w h1 h2 (by omega) (by omega) b2
  have bq : blen (x / y) ≤ 1125899906809856 := Nat.le_trans (blen_mono (Nat.div_le_self x y)) b1
  have bs : blen (y + x / y) ≤ 1125899906840000 := by
    have e1 := (blen_le_iff (x / y) _).1 bq
    have e2 := (blen_le_iff y _).1 b2
    obtain ⟨K, hK⟩ : ∃ K, 1125899906809856 = K := ⟨_, rfl⟩
    rw [hK] at e1 e2
    have e3 : blen (y + x / y) ≤ K + 1 := (blen_le_iff _ _).2 (by rw [Nat.pow_succ]; omega)
    omega
  have HN := hide h2
  clear h1 h2 hyz
  go_enter Tryz.func19, Tryz.ntmps19
  go_wp2_with fail
  refine HZ.mono ?_
  rintro e w1 ⟨rfl, hw⟩; rw [hw]; clear hw
  go_wp2_with fail
  refine HD.mono ?_
  rintro e w2 ⟨⟨vq, vr, rfl, nq, _⟩, hb⟩
  have HAD := radd_any v2 vq y (x / y) w2 (HN.out.below hb) nq (by omega) (by omega)
  have HB := hide hb
  clear nq hb HD
  go_wp2_with fail
  refine HAD.mono ?_
  rintro e w3 ⟨⟨vs, rfl, ns⟩, hb⟩
  have HS := rshr_any vs _ 1 w3 ns bs (by omega)
  rw [Nat.pow_one] at HS
  have HB2 := hide (HB.out.trans (hb.mono HB.out.size))
  clear ns hb HAD
  go_wp2_with fail
  refine HS.mono ?_
  rintro e w4 ⟨⟨vd, rfl, nd⟩, hb⟩
  have HTO := told4_any vd _ w4 nd
  have HB3 := hide (HB2.out.trans (hb.mono HB2.out.size))
  clear nd hb HS
  go_wp2_with fail
  refine HTO.mono ?_
  rintro e w5 ⟨hw, vn, v2', f, rfl, ht⟩
  subst hw
  have HTT := hide ht
  clear ht HTO
  go_wp2
  go_returns
  exact ⟨⟨_, _, rfl, HTT.out⟩, HB3.out⟩

set_option maxRecDepth 100000 in
set_option maxHeartbeats 2000000 in
theorem rootSteps_walk (v0 : Value) (z0 : List Nat) (v1 : Value) (z1 : List Nat) (w : World) (hT : Tab w) (A0 : Arg w v0 z0) (s0 : z0.length ≤ 17592186043904) (A1 : Arg w v1 z1) (s1 : z1.length ≤ 17592186043904) :
    Calls Tryz.prog 5 #[v0, v1] w fun e w' => e = .returned (.bool true) ∧ Below w.heap.size w w' := by
  have H : Hid (Below w.heap.size w w) := Below.refl _ _
  have HT := hide hT
  have b0 := A0.bits s0
  have b1 := A1.bits s1
  clear hT
  by_cases hz : val z1 = 0
  · go_enter Tryz.func5, Tryz.ntmps5
    go_wp2_with fail
    refine (lend_ok _ _ _ A0 (by omega)).mono ?_
    rintro e w0 ⟨⟨vw, vp, rfl, Lw, Ap⟩, hb⟩
    replace H := hid_below H hb; replace A0 := A0.below hb; replace A1 := A1.below hb; clear hb
    go_wp2_with fail
    refine (lend_ok _ _ _ A1 (by omega)).mono ?_
    rintro e w1 ⟨⟨vwx, vq, rfl, Lx, Aq⟩, hb⟩
    replace H := hid_below H hb; replace A0 := A0.below hb; replace A1 := A1.below hb; replace Ap := Ap.below hb; replace Lw := Lw.below hb; clear hb
    have HO := of_any _ _ _ A0 (by omega)
    go_wp2_with fail
    refine HO.mono ?_
    rintro e w2 ⟨⟨vx, rfl, Nx⟩, hb⟩
    replace H := hid_below H hb; replace A0 := A0.below hb; replace A1 := A1.below hb; replace Ap := Ap.below hb; replace Aq := Aq.below hb; replace Lw := Lw.below hb; replace Lx := Lx.below hb; clear hb HO
    have HO := of_any _ _ _ A1 (by omega)
    go_wp2_with fail
    refine HO.mono ?_
    rintro e w3 ⟨⟨vy, rfl, Ny⟩, hb⟩
    replace H := hid_below H hb; replace A0 := A0.below hb; replace A1 := A1.below hb; replace Ap := Ap.below hb; replace Aq := Aq.below hb; replace Lw := Lw.below hb; replace Lx := Lx.below hb; replace Nx := Nx.below hb; clear hb HO
    rw [hz] at Ny
    have F1 := refStep_zero vx vy w3 Ny
    have F2 := rstep_zero vp vq z1 w3 Aq hz
    clear Nx Ny Ap Aq
    go_wp2_with fail
    refine F1.mono ?_
    rintro e wn ⟨rfl, hw⟩; rw [hw]; clear hw wn F1
    go_wp2_with fail
    refine F2.mono ?_
    rintro e wn ⟨rfl, hw⟩; rw [hw]; clear hw wn F2
    have HE := alike4_err none 0 (.slice none 0 0) 30 w3 (by omega)
    go_wp2_with fail
    refine HE.mono ?_
    rintro e wn ⟨rfl, hw⟩; rw [hw]; clear hw wn HE
    have HOW := own_chain w3.heap.size [.slice none 0 0] [[]] w3 ⟨_, ⟨Nat.le_refl _, Nat.le_refl _⟩, Ans.nil _ _, (fun g e => (by cases e)), trivial⟩ (by simp) (by simp) (Nat.le_refl _)
    go_wp2_with fail
    refine HOW.mono ?_
    rintro e w6 ⟨rfl, hb⟩
    replace H := hid_below H hb; replace A0 := A0.below hb; replace A1 := A1.below hb; replace Lw := Lw.below hb; replace Lx := Lx.below hb
    clear hb HOW
    go_wp2_with fail
    refine (kept_ok _ _ _ _ Lw A0 (by omega)).mono ?_
    rintro e wn ⟨rfl, hw⟩; rw [hw]; clear hw wn
    go_wp2_with fail
    refine (kept_ok _ _ _ _ Lx A1 (by omega)).mono ?_
    rintro e wn ⟨rfl, hw⟩; rw [hw]; clear hw wn
    have HA := awake4_any w6
    clear A0 A1 Lw Lx
    go_wp2_with fail
    refine HA.mono ?_
    rintro e w9 ⟨rfl, hb⟩
    replace H := hid_below H hb; clear hb HA
    go_wp2
    go_ret
    exact ⟨rfl, H.out⟩
  · go_enter Tryz.func5, Tryz.ntmps5
    go_wp2_with fail
    refine (lend_ok _ _ _ A0 (by omega)).mono ?_
    rintro e w0 ⟨⟨vw, vp, rfl, Lw, Ap⟩, hb⟩
    replace H := hid_below H hb; replace A0 := A0.below hb; replace A1 := A1.below hb; clear hb
    go_wp2_with fail
    refine (lend_ok _ _ _ A1 (by omega)).mono ?_
    rintro e w1 ⟨⟨vwx, vq, rfl, Lx, Aq⟩, hb⟩
    replace H := hid_below H hb; replace A0 := A0.below hb; replace A1 := A1.below hb; replace Ap := Ap.below hb; replace Lw := Lw.below hb; clear hb
    have HO := of_any _ _ _ A0 (by omega)
    go_wp2_with fail
    refine HO.mono ?_
    rintro e w2 ⟨⟨vx, rfl, Nx⟩, hb⟩
    replace H := hid_below H hb; replace A0 := A0.below hb; replace A1 := A1.below hb; replace Ap := Ap.below hb; replace Aq := Aq.below hb; replace Lw := Lw.below hb; replace Lx := Lx.below hb; clear hb HO
    have HO := of_any _ _ _ A1 (by omega)
    go_wp2_with fail
    refine HO.mono ?_
    rintro e w3 ⟨⟨vy, rfl, Ny⟩, hb⟩
    replace H := hid_below H hb; replace A0 := A0.below hb; replace A1 := A1.below hb; replace Ap := Ap.below hb; replace Aq := Aq.below hb; replace Lw := Lw.below hb; replace Lx := Lx.below hb; replace Nx := Nx.below hb; clear hb HO
    have F1 := refStep_any vx vy _ _ w3 Nx Ny (by omega) b0 b1
    clear Nx Ny
    go_wp2_with fail
    refine F1.mono ?_
    rintro e w4 ⟨⟨vn, f, rfl, hf⟩, hb⟩
    replace H := hid_below H hb; replace A0 := A0.below hb; replace A1 := A1.below hb; replace Ap := Ap.below hb; replace Aq := Aq.below hb; replace Lw := Lw.below hb; replace Lx := Lx.below hb; clear hb F1
    have HF := hide hf
    have F2 := rstep_any vp vq z0 z1 w4 Ap Aq (HT.out.below H.out) (by omega) (by omega) (by omega)
    clear Ap Aq hf
    go_wp2_with fail
    refine F2.mono ?_
    rintro e w5 ⟨hb, v, c, rs, rfl, An, hres⟩
    have lr := Res.few An hres
    obtain ⟨o1, n1, c1, rfl⟩ := An.slice
    have hf5 : TellN w5 vn f ((val z1 + val z0 / val z1) / 2) := by
      rcases HF.out with ⟨h1, h2, h3⟩ | h
      · exact .inl ⟨h1, h2.below hb, h3⟩
      · exact .inr h
    have HS := alike4_ok _ vn c f rs _ w4.heap.size w5 An lr hres hf5
    have HB := hide hb
    clear hb F2 hres hf5 HF
    go_wp2_with fail
    refine HS.mono ?_
    rintro e w6 ⟨rfl, hb⟩
    replace An := An.below hb
    replace HB := hide (HB.out.trans (hb.mono HB.out.size))
    clear hb HS
    have HOW := own_chain w4.heap.size [.slice o1 n1 c1] [rs] w6 (Chain.one An HB.out.size) (by simp) (by simp; omega) HB.out.size
    go_wp2_with fail
    refine HOW.mono ?_
    rintro e w7 ⟨rfl, hb⟩
    have hb7 := HB.out.trans hb
    replace H := hid_below H hb7; replace A0 := A0.below hb7; replace A1 := A1.below hb7; replace Lw := Lw.below hb7; replace Lx := Lx.below hb7
    clear hb HOW An hb7 HB
    go_wp2_with fail
    refine (kept_ok _ _ _ _ Lw A0 (by omega)).mono ?_
    rintro e wn ⟨rfl, hw⟩; rw [hw]; clear hw wn
    go_wp2_with fail
    refine (kept_ok _ _ _ _ Lx A1 (by omega)).mono ?_
    rintro e wn ⟨rfl, hw⟩; rw [hw]; clear hw wn
    have HA := awake4_any w7
    clear A0 A1 Lw Lx
    go_wp2_with fail
    refine HA.mono ?_
    rintro e w9 ⟨rfl, hb⟩
    replace H := hid_below H hb; clear hb HA
    go_wp2
    go_ret
    exact ⟨rfl, H.out⟩

end Go.Proofs.YtlphlcmlkibmjabGreatDoor
