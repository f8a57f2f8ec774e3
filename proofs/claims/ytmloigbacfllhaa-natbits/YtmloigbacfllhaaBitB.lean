/- Package nat: And, Or, Xor. -/
import Derived.Test.YtmloigbacfllhaaBitP
import Derived.Test.YtmloigbacfllhaaNatD
namespace Go.Proofs.Ytmloigbacfllhaa
open Go.RowKit
open Lm
attribute [local go_sem ↓] Go.wp_at_zero Go.wp_at_succ

theorem and_lit (x y : Nat) (w : World) (hx : x < 18446744073709551616) (hy : y < 18446744073709551616) :
    Calls Try.prog 16 #[.int .u64 x, .int .u64 y] w fun e w' => e = .returned (.int .u64 ((x &&& y : Nat) : Int)) ∧ w' = w := by
  have h := bits_and_u64_nat x y hx hy
  go_enter Try.func16, Try.ntmps16
  go_wp2
  go_ret
  exact ⟨rfl, rfl⟩

theorem or_lit (x y : Nat) (w : World) (hx : x < 18446744073709551616) (hy : y < 18446744073709551616) :
    Calls Try.prog 17 #[.int .u64 x, .int .u64 y] w fun e w' => e = .returned (.int .u64 ((x ||| y : Nat) : Int)) ∧ w' = w := by
  have h := bits_or_u64_nat x y hx hy
  go_enter Try.func17, Try.ntmps17
  go_wp2
  go_ret
  exact ⟨rfl, rfl⟩

theorem xor_lit (x y : Nat) (w : World) (hx : x < 18446744073709551616) (hy : y < 18446744073709551616) :
    Calls Try.prog 18 #[.int .u64 x, .int .u64 y] w fun e w' => e = .returned (.int .u64 ((x ^^^ y : Nat) : Int)) ∧ w' = w := by
  have h := bits_xor_u64_nat x y hx hy
  go_enter Try.func18, Try.ntmps18
  go_wp2
  go_ret
  exact ⟨rfl, rfl⟩

theorem take_zip_set (out : List Nat) (f : Nat → Nat → Nat) (n k : Nat) (P Q : List Nat) (hl : out.length = n) (hk : k < n) (h : out.take k = (zipL f n P Q).take k) : (out.set k (f (P.getD k 0) (Q.getD k 0))).take (k + 1) = (zipL f n P Q).take (k + 1) := by
  have h1 : k < (out.set k (f (P.getD k 0) (Q.getD k 0))).length := by simp; omega
  have h2 : k < (zipL f n P Q).length := by rw [zipL_length]; exact hk
  rw [List.take_succ_eq_append_getElem h1, List.take_succ_eq_append_getElem h2, List.take_set_of_le (Nat.le_refl _), h]
  congr 2
  have := zipL_getD f n k P Q hk
  simp only [List.getElem_set_self]
  rw [← this]
  simp [List.getD, h2]

theorem and_lt64 (x y : Nat) (hx : x < 18446744073709551616) (_hy : y < 18446744073709551616) : x &&& y < 18446744073709551616 := Nat.lt_of_le_of_lt Nat.and_le_left hx
theorem or_lt64 (x y : Nat) (hx : x < 18446744073709551616) (hy : y < 18446744073709551616) : x ||| y < 18446744073709551616 := Nat.or_lt_two_pow (n := 64) hx hy
theorem xor_lt64 (x y : Nat) (hx : x < 18446744073709551616) (hy : y < 18446744073709551616) : x ^^^ y < 18446744073709551616 := Nat.xor_lt_two_pow (n := 64) hx hy

set_option maxRecDepth 20000 in
set_option maxHeartbeats 1000000 in
theorem combine_and (a1 a2 : Option Addr) (c1 c2 : Nat) (X Y : List Nat) (w : World) (h1 : Arg w (.slice a1 X.length c1) X) (h2 : Arg w (.slice a2 Y.length c2) Y) (hc1 : X.length ≤ c1) (hm1 : c1 ≤ 9223372036854775807) (hl1 : Lies w a1 X) (hc2 : Y.length ≤ c2) (hm2 : c2 ≤ 9223372036854775807) (hl2 : Lies w a2 Y) (f1 : X.length ≤ 35184372088831) (f2 : Y.length ≤ 35184372088831) :
    Calls Try.prog 15 #[.slice a1 X.length c1, .slice a2 Y.length c2, Value.func (Fn.func 16) #[] #[]] w fun e w' => (∃ v, e = .returned v ∧ Ans w' w.heap.size v (tr (zipL (fun x y => x &&& y) (max (tr X).length (tr Y).length) (tr X) (tr Y)))) ∧ Below w.heap.size w w' := by
  obtain ⟨i0, hi, hz0, hz1, hz2⟩ := info_parts Try.infoU
  have T1 := trim_any a1 c1 X w hc1 hm1 hl1
  have T2 := trim_any a2 c2 Y w hc2 hm2 hl2
  have L1 := hl1.tr
  have L2 := hl2.tr
  have M1 := limbs_tr h1.limbs
  have M2 := limbs_tr h2.limbs
  have l1 := tr_length_le X
  have l2 := tr_length_le Y
  clear h1 h2 hl1 hl2
  obtain ⟨n, hn, hn1, hn2, hn3⟩ : ∃ n : Nat, Hid (n = max (tr X).length (tr Y).length) ∧ (tr X).length ≤ n ∧ (tr Y).length ≤ n ∧ n ≤ 35184372088831 := ⟨_, rfl, by omega, by omega, by omega⟩
  go_enter Try.func15, Try.ntmps15
  go_wp2_with fail
  refine T1.mono ?_
  rintro e w' ⟨rfl, rfl⟩
  go_wp2_with fail
  refine T2.mono ?_
  rintro e w'' ⟨rfl, rfl⟩
  clear T1 T2
  go_wp2_with (at_make; refine wpList_make_full _ rfl _ _ 23 rfl w''.heap.size 35 i0 (.int .u64 0) 1 Try.underlying23 hi hz0 hz1 .i64 .i64 _ _ n rfl rfl (by have := hn.out; omega) (by have := hn.out; omega) (by rw [hz2]; omega) (by unfold maxLen; omega) (Nat.le_refl _) ?_; intro wm hown hgrow)
  have hb1 := Blk.made hown
  have hbel : Below w''.heap.size w'' wm := (Below.refl _ _).grown hgrow (Nat.le_refl _) (fun k hk => by cases hk)
  clear hown hgrow hi hz0 hz1 hz2
  go_loopw [21] (fun i wr => ∃ (k : Nat) (out : List Nat), k ≤ n ∧ i = .int .i64 k ∧ out.length = n ∧ Limbs out ∧ Blk wr w''.heap.size out ∧ Below w''.heap.size w'' wr ∧
      out.take k = (zipL (fun x y => x &&& y) n (tr X) (tr Y)).take k) (fun i _ => n - (intOf i).toNat)
  case atStart => exact ⟨0, _, Nat.zero_le _, rfl, by simp, limbs_replicate _, hb1, hbel, by simp⟩
  case round =>
    obtain ⟨k, out, hk, rfl, hlen, hlo, hblk, hbl, hval⟩ := hrel
    clear hb1 hbel
    have HV : Hid (out.take k = (zipL (fun x y => x &&& y) n (tr X) (tr Y)).take k) := hval
    clear hval
    have HB : Hid (Blk wr w''.heap.size out) := hblk
    have HL : Hid (Below w''.heap.size w'' wr) := hbl
    by_cases hkl : k < n
    · have H41 := limb_any a1 c1 (tr X) k wr (by omega) hm1 (L1.below hbl)
      have H42 := limb_any a2 c2 (tr Y) k wr (by omega) hm2 (L2.below hbl)
      have hfr := hblk.free k
      have hco := hblk.cell k (by omega)
      have z1 := limb_lt M1 k
      have z2 := limb_lt M2 k
      have hst := take_zip_set out (fun x y => x &&& y) n k (tr X) (tr Y) hlen hkl HV.out
      have hlit := and_lit ((tr X).getD k 0) ((tr Y).getD k 0) wr z1 z2
      have hs1 := and_lt64 ((tr X).getD k 0) ((tr Y).getD k 0) z1 z2
      generalize (tr X).getD k 0 = x at *
      generalize (tr Y).getD k 0 = y at *
      generalize out.getD k 0 = o at *
      have HS' : Hid ((out.set k (x &&& y)).take (k + 1) = (zipL (fun x y => x &&& y) n (tr X) (tr Y)).take (k + 1)) := hst
      generalize (x &&& y) = s at *
      clear hst hblk hbl HV L1 L2 M1 M2
      have hi1 : (0 : Int) ≤ (k : Int) := by omega
      have hi2 : (k : Int) < (n : Int) := by omega
      clear hn1 hn2
      go_wp2_with fail
      refine H41.mono ?_
      rintro e w2 ⟨rfl, rfl⟩
      go_wp2_with fail
      refine H42.mono ?_
      rintro e w3 ⟨rfl, rfl⟩
      go_wp2_with fail
      refine hlit.mono ?_
      rintro e w4 ⟨rfl, rfl⟩
      clear H41 H42 hlit
      go_wp2
      go_roundw
      case rel => exact ⟨k + 1, out.set k s, by omega, by go_num, by simp; omega, limbs_set hlo _ _ hs1, HB.out.set k s, (HL.out.setCell (Nat.le_refl _) _), HS'.out⟩
      case measure => simp [intOf]; omega
    · have ek : k = n := by omega
      subst ek
      have hout : out = zipL (fun x y => x &&& y) k (tr X) (tr Y) := by
        have := HV.out
        rw [List.take_of_length_le (by omega), List.take_of_length_le (by rw [zipL_length]; omega)] at this
        exact this
      have hout' : Hid (out = zipL (fun x y => x &&& y) k (tr X) (tr Y)) := hout
      clear hout
      have HT := trim_any (some ⟨w''.heap.size, 0, none⟩) k out wr (by omega) (by omega) (.inr ⟨_, 0, rfl, fun j hj => by rw [Nat.zero_add]; exact hblk.cell j hj⟩)
      rw [hlen] at HT
      clear hblk hbl HV L1 L2 M1 M2 hn1 hn2
      go_wp2_with fail
      refine HT.mono ?_
      rintro e w2 ⟨rfl, rfl⟩
      go_wp2
      go_ret
      refine ⟨⟨_, rfl, ?_⟩, HL.out⟩
      rw [← hn.out, ← hout'.out]
      have := (Ans.of_blk (Nat.le_refl _) HB.out List.take_length.symm (Nat.le_refl _) (by omega) hlo : Ans _ w''.heap.size (.slice (some ⟨w''.heap.size, 0, none⟩) out.length out.length) out).trim
      rw [hlen] at this
      exact this
set_option maxRecDepth 20000 in
set_option maxHeartbeats 1000000 in
theorem combine_or (a1 a2 : Option Addr) (c1 c2 : Nat) (X Y : List Nat) (w : World) (h1 : Arg w (.slice a1 X.length c1) X) (h2 : Arg w (.slice a2 Y.length c2) Y) (hc1 : X.length ≤ c1) (hm1 : c1 ≤ 9223372036854775807) (hl1 : Lies w a1 X) (hc2 : Y.length ≤ c2) (hm2 : c2 ≤ 9223372036854775807) (hl2 : Lies w a2 Y) (f1 : X.length ≤ 35184372088831) (f2 : Y.length ≤ 35184372088831) :
    Calls Try.prog 15 #[.slice a1 X.length c1, .slice a2 Y.length c2, Value.func (Fn.func 17) #[] #[]] w fun e w' => (∃ v, e = .returned v ∧ Ans w' w.heap.size v (tr (zipL (fun x y => x ||| y) (max (tr X).length (tr Y).length) (tr X) (tr Y)))) ∧ Below w.heap.size w w' := by
  obtain ⟨i0, hi, hz0, hz1, hz2⟩ := info_parts Try.infoU
  have T1 := trim_any a1 c1 X w hc1 hm1 hl1
  have T2 := trim_any a2 c2 Y w hc2 hm2 hl2
  have L1 := hl1.tr
  have L2 := hl2.tr
  have M1 := limbs_tr h1.limbs
  have M2 := limbs_tr h2.limbs
  have l1 := tr_length_le X
  have l2 := tr_length_le Y
  clear h1 h2 hl1 hl2
  obtain ⟨n, hn, hn1, hn2, hn3⟩ : ∃ n : Nat, Hid (n = max (tr X).length (tr Y).length) ∧ (tr X).length ≤ n ∧ (tr Y).length ≤ n ∧ n ≤ 35184372088831 := ⟨_, rfl, by omega, by omega, by omega⟩
  go_enter Try.func15, Try.ntmps15
  go_wp2_with fail
  refine T1.mono ?_
  rintro e w' ⟨rfl, rfl⟩
  go_wp2_with fail
  refine T2.mono ?_
  rintro e w'' ⟨rfl, rfl⟩
  clear T1 T2
  go_wp2_with (at_make; refine wpList_make_full _ rfl _ _ 23 rfl w''.heap.size 35 i0 (.int .u64 0) 1 Try.underlying23 hi hz0 hz1 .i64 .i64 _ _ n rfl rfl (by have := hn.out; omega) (by have := hn.out; omega) (by rw [hz2]; omega) (by unfold maxLen; omega) (Nat.le_refl _) ?_; intro wm hown hgrow)
  have hb1 := Blk.made hown
  have hbel : Below w''.heap.size w'' wm := (Below.refl _ _).grown hgrow (Nat.le_refl _) (fun k hk => by cases hk)
  clear hown hgrow hi hz0 hz1 hz2
  go_loopw [21] (fun i wr => ∃ (k : Nat) (out : List Nat), k ≤ n ∧ i = .int .i64 k ∧ out.length = n ∧ Limbs out ∧ Blk wr w''.heap.size out ∧ Below w''.heap.size w'' wr ∧
      out.take k = (zipL (fun x y => x ||| y) n (tr X) (tr Y)).take k) (fun i _ => n - (intOf i).toNat)
  case atStart => exact ⟨0, _, Nat.zero_le _, rfl, by simp, limbs_replicate _, hb1, hbel, by simp⟩
  case round =>
    obtain ⟨k, out, hk, rfl, hlen, hlo, hblk, hbl, hval⟩ := hrel
    clear hb1 hbel
    have HV : Hid (out.take k = (zipL (fun x y => x ||| y) n (tr X) (tr Y)).take k) := hval
    clear hval
    have HB : Hid (Blk wr w''.heap.size out) := hblk
    have HL : Hid (Below w''.heap.size w'' wr) := hbl
    by_cases hkl : k < n
    · have H41 := limb_any a1 c1 (tr X) k wr (by omega) hm1 (L1.below hbl)
      have H42 := limb_any a2 c2 (tr Y) k wr (by omega) hm2 (L2.below hbl)
      have hfr := hblk.free k
      have hco := hblk.cell k (by omega)
      have z1 := limb_lt M1 k
      have z2 := limb_lt M2 k
      have hst := take_zip_set out (fun x y => x ||| y) n k (tr X) (tr Y) hlen hkl HV.out
      have hlit := or_lit ((tr X).getD k 0) ((tr Y).getD k 0) wr z1 z2
      have hs1 := or_lt64 ((tr X).getD k 0) ((tr Y).getD k 0) z1 z2
      generalize (tr X).getD k 0 = x at *
      generalize (tr Y).getD k 0 = y at *
      generalize out.getD k 0 = o at *
      have HS' : Hid ((out.set k (x ||| y)).take (k + 1) = (zipL (fun x y => x ||| y) n (tr X) (tr Y)).take (k + 1)) := hst
      generalize (x ||| y) = s at *
      clear hst hblk hbl HV L1 L2 M1 M2
      have hi1 : (0 : Int) ≤ (k : Int) := by omega
      have hi2 : (k : Int) < (n : Int) := by omega
      clear hn1 hn2
      go_wp2_with fail
      refine H41.mono ?_
      rintro e w2 ⟨rfl, rfl⟩
      go_wp2_with fail
      refine H42.mono ?_
      rintro e w3 ⟨rfl, rfl⟩
      go_wp2_with fail
      refine hlit.mono ?_
      rintro e w4 ⟨rfl, rfl⟩
      clear H41 H42 hlit
      go_wp2
      go_roundw
      case rel => exact ⟨k + 1, out.set k s, by omega, by go_num, by simp; omega, limbs_set hlo _ _ hs1, HB.out.set k s, (HL.out.setCell (Nat.le_refl _) _), HS'.out⟩
      case measure => simp [intOf]; omega
    · have ek : k = n := by omega
      subst ek
      have hout : out = zipL (fun x y => x ||| y) k (tr X) (tr Y) := by
        have := HV.out
        rw [List.take_of_length_le (by omega), List.take_of_length_le (by rw [zipL_length]; omega)] at this
        exact this
      have hout' : Hid (out = zipL (fun x y => x ||| y) k (tr X) (tr Y)) := hout
      clear hout
      have HT := trim_any (some ⟨w''.heap.size, 0, none⟩) k out wr (by omega) (by omega) (.inr ⟨_, 0, rfl, fun j hj => by rw [Nat.zero_add]; exact hblk.cell j hj⟩)
      rw [hlen] at HT
      clear hblk hbl HV L1 L2 M1 M2 hn1 hn2
      go_wp2_with fail
      refine HT.mono ?_
      rintro e w2 ⟨rfl, rfl⟩
      go_wp2
      go_ret
      refine ⟨⟨_, rfl, ?_⟩, HL.out⟩
      rw [← hn.out, ← hout'.out]
      have := (Ans.of_blk (Nat.le_refl _) HB.out List.take_length.symm (Nat.le_refl _) (by omega) hlo : Ans _ w''.heap.size (.slice (some ⟨w''.heap.size, 0, none⟩) out.length out.length) out).trim
      rw [hlen] at this
      exact this
set_option maxRecDepth 20000 in
set_option maxHeartbeats 1000000 in
theorem combine_xor (a1 a2 : Option Addr) (c1 c2 : Nat) (X Y : List Nat) (w : World) (h1 : Arg w (.slice a1 X.length c1) X) (h2 : Arg w (.slice a2 Y.length c2) Y) (hc1 : X.length ≤ c1) (hm1 : c1 ≤ 9223372036854775807) (hl1 : Lies w a1 X) (hc2 : Y.length ≤ c2) (hm2 : c2 ≤ 9223372036854775807) (hl2 : Lies w a2 Y) (f1 : X.length ≤ 35184372088831) (f2 : Y.length ≤ 35184372088831) :
    Calls Try.prog 15 #[.slice a1 X.length c1, .slice a2 Y.length c2, Value.func (Fn.func 18) #[] #[]] w fun e w' => (∃ v, e = .returned v ∧ Ans w' w.heap.size v (tr (zipL (fun x y => x ^^^ y) (max (tr X).length (tr Y).length) (tr X) (tr Y)))) ∧ Below w.heap.size w w' := by
  obtain ⟨i0, hi, hz0, hz1, hz2⟩ := info_parts Try.infoU
  have T1 := trim_any a1 c1 X w hc1 hm1 hl1
  have T2 := trim_any a2 c2 Y w hc2 hm2 hl2
  have L1 := hl1.tr
  have L2 := hl2.tr
  have M1 := limbs_tr h1.limbs
  have M2 := limbs_tr h2.limbs
  have l1 := tr_length_le X
  have l2 := tr_length_le Y
  clear h1 h2 hl1 hl2
  obtain ⟨n, hn, hn1, hn2, hn3⟩ : ∃ n : Nat, Hid (n = max (tr X).length (tr Y).length) ∧ (tr X).length ≤ n ∧ (tr Y).length ≤ n ∧ n ≤ 35184372088831 := ⟨_, rfl, by omega, by omega, by omega⟩
  go_enter Try.func15, Try.ntmps15
  go_wp2_with fail
  refine T1.mono ?_
  rintro e w' ⟨rfl, rfl⟩
  go_wp2_with fail
  refine T2.mono ?_
  rintro e w'' ⟨rfl, rfl⟩
  clear T1 T2
  go_wp2_with (at_make; refine wpList_make_full _ rfl _ _ 23 rfl w''.heap.size 35 i0 (.int .u64 0) 1 Try.underlying23 hi hz0 hz1 .i64 .i64 _ _ n rfl rfl (by have := hn.out; omega) (by have := hn.out; omega) (by rw [hz2]; omega) (by unfold maxLen; omega) (Nat.le_refl _) ?_; intro wm hown hgrow)
  have hb1 := Blk.made hown
  have hbel : Below w''.heap.size w'' wm := (Below.refl _ _).grown hgrow (Nat.le_refl _) (fun k hk => by cases hk)
  clear hown hgrow hi hz0 hz1 hz2
  go_loopw [21] (fun i wr => ∃ (k : Nat) (out : List Nat), k ≤ n ∧ i = .int .i64 k ∧ out.length = n ∧ Limbs out ∧ Blk wr w''.heap.size out ∧ Below w''.heap.size w'' wr ∧
      out.take k = (zipL (fun x y => x ^^^ y) n (tr X) (tr Y)).take k) (fun i _ => n - (intOf i).toNat)
  case atStart => exact ⟨0, _, Nat.zero_le _, rfl, by simp, limbs_replicate _, hb1, hbel, by simp⟩
  case round =>
    obtain ⟨k, out, hk, rfl, hlen, hlo, hblk, hbl, hval⟩ := hrel
    clear hb1 hbel
    have HV : Hid (out.take k = (zipL (fun x y => x ^^^ y) n (tr X) (tr Y)).take k) := hval
    clear hval
    have HB : Hid (Blk wr w''.heap.size out) := hblk
    have HL : Hid (Below w''.heap.size w'' wr) := hbl
    by_cases hkl : k < n
    · have H41 := limb_any a1 c1 (tr X) k wr (by omega) hm1 (L1.below hbl)
      have H42 := limb_any a2 c2 (tr Y) k wr (by omega) hm2 (L2.below hbl)
      have hfr := hblk.free k
      have hco := hblk.cell k (by omega)
      have z1 := limb_lt M1 k
      have z2 := limb_lt M2 k
      have hst := take_zip_set out (fun x y => x ^^^ y) n k (tr X) (tr Y) hlen hkl HV.out
      have hlit := xor_lit ((tr X).getD k 0) ((tr Y).getD k 0) wr z1 z2
      have hs1 := xor_lt64 ((tr X).getD k 0) ((tr Y).getD k 0) z1 z2
      generalize (tr X).getD k 0 = x at *
      generalize (tr Y).getD k 0 = y at *
      generalize out.getD k 0 = o at *
      have HS' : Hid ((out.set k (x ^^^ y)).take (k + 1) = (zipL (fun x y => x ^^^ y) n (tr X) (tr Y)).take (k + 1)) := hst
      generalize (x ^^^ y) = s at *
      clear hst hblk hbl HV L1 L2 M1 M2
      have hi1 : (0 : Int) ≤ (k : Int) := by omega
      have hi2 : (k : Int) < (n : Int) := by omega
      clear hn1 hn2
      go_wp2_with fail
      refine H41.mono ?_
      rintro e w2 ⟨rfl, rfl⟩
      go_wp2_with fail
      refine H42.mono ?_
      rintro e w3 ⟨rfl, rfl⟩
      go_wp2_with fail
      refine hlit.mono ?_
      rintro e w4 ⟨rfl, rfl⟩
      clear H41 H42 hlit
      go_wp2
      go_roundw
      case rel => exact ⟨k + 1, out.set k s, by omega, by go_num, by simp; omega, limbs_set hlo _ _ hs1, HB.out.set k s, (HL.out.setCell (Nat.le_refl _) _), HS'.out⟩
      case measure => simp [intOf]; omega
    · have ek : k = n := by omega
      subst ek
      have hout : out = zipL (fun x y => x ^^^ y) k (tr X) (tr Y) := by
        have := HV.out
        rw [List.take_of_length_le (by omega), List.take_of_length_le (by rw [zipL_length]; omega)] at this
        exact this
      have hout' : Hid (out = zipL (fun x y => x ^^^ y) k (tr X) (tr Y)) := hout
      clear hout
      have HT := trim_any (some ⟨w''.heap.size, 0, none⟩) k out wr (by omega) (by omega) (.inr ⟨_, 0, rfl, fun j hj => by rw [Nat.zero_add]; exact hblk.cell j hj⟩)
      rw [hlen] at HT
      clear hblk hbl HV L1 L2 M1 M2 hn1 hn2
      go_wp2_with fail
      refine HT.mono ?_
      rintro e w2 ⟨rfl, rfl⟩
      go_wp2
      go_ret
      refine ⟨⟨_, rfl, ?_⟩, HL.out⟩
      rw [← hn.out, ← hout'.out]
      have := (Ans.of_blk (Nat.le_refl _) HB.out List.take_length.symm (Nat.le_refl _) (by omega) hlo : Ans _ w''.heap.size (.slice (some ⟨w''.heap.size, 0, none⟩) out.length out.length) out).trim
      rw [hlen] at this
      exact this

theorem and_any (v1 v2 : Value) (X Y : List Nat) (w : World) (h1 : Arg w v1 X) (h2 : Arg w v2 Y) (f1 : X.length ≤ 35184372088831) (f2 : Y.length ≤ 35184372088831) :
    Calls Try.prog 4 #[v1, v2] w fun e w' => (∃ v, e = .returned v ∧ Ans w' w.heap.size v (tr (zipL (fun x y => x &&& y) (max (tr X).length (tr Y).length) (tr X) (tr Y)))) ∧ Below w.heap.size w w' := by
  obtain ⟨a1, c1, rfl, hc1, hm1, hl1⟩ := h1.form
  obtain ⟨a2, c2, rfl, hc2, hm2, hl2⟩ := h2.form
  have HC := combine_and a1 a2 c1 c2 X Y w h1 h2 hc1 hm1 hl1 hc2 hm2 hl2 f1 f2
  clear h1 h2 hl1 hl2
  go_enter Try.func4, Try.ntmps4
  go_wp2_with fail
  refine HC.mono ?_
  rintro e w' ⟨⟨v, rfl, ha⟩, hb⟩
  have HA : Hid (Ans w' w.heap.size v (tr (zipL (fun x y => x &&& y) (max (tr X).length (tr Y).length) (tr X) (tr Y))) ∧ Below w.heap.size w w') := ⟨ha, hb⟩
  clear ha hb HC
  go_wp2
  go_ret
  exact ⟨⟨v, rfl, HA.out.1⟩, HA.out.2⟩

theorem or_any (v1 v2 : Value) (X Y : List Nat) (w : World) (h1 : Arg w v1 X) (h2 : Arg w v2 Y) (f1 : X.length ≤ 35184372088831) (f2 : Y.length ≤ 35184372088831) :
    Calls Try.prog 5 #[v1, v2] w fun e w' => (∃ v, e = .returned v ∧ Ans w' w.heap.size v (tr (zipL (fun x y => x ||| y) (max (tr X).length (tr Y).length) (tr X) (tr Y)))) ∧ Below w.heap.size w w' := by
  obtain ⟨a1, c1, rfl, hc1, hm1, hl1⟩ := h1.form
  obtain ⟨a2, c2, rfl, hc2, hm2, hl2⟩ := h2.form
  have HC := combine_or a1 a2 c1 c2 X Y w h1 h2 hc1 hm1 hl1 hc2 hm2 hl2 f1 f2
  clear h1 h2 hl1 hl2
  go_enter Try.func5, Try.ntmps5
  go_wp2_with fail
  refine HC.mono ?_
  rintro e w' ⟨⟨v, rfl, ha⟩, hb⟩
  have HA : Hid (Ans w' w.heap.size v (tr (zipL (fun x y => x ||| y) (max (tr X).length (tr Y).length) (tr X) (tr Y))) ∧ Below w.heap.size w w') := ⟨ha, hb⟩
  clear ha hb HC
  go_wp2
  go_ret
  exact ⟨⟨v, rfl, HA.out.1⟩, HA.out.2⟩

theorem xor_any (v1 v2 : Value) (X Y : List Nat) (w : World) (h1 : Arg w v1 X) (h2 : Arg w v2 Y) (f1 : X.length ≤ 35184372088831) (f2 : Y.length ≤ 35184372088831) :
    Calls Try.prog 6 #[v1, v2] w fun e w' => (∃ v, e = .returned v ∧ Ans w' w.heap.size v (tr (zipL (fun x y => x ^^^ y) (max (tr X).length (tr Y).length) (tr X) (tr Y)))) ∧ Below w.heap.size w w' := by
  obtain ⟨a1, c1, rfl, hc1, hm1, hl1⟩ := h1.form
  obtain ⟨a2, c2, rfl, hc2, hm2, hl2⟩ := h2.form
  have HC := combine_xor a1 a2 c1 c2 X Y w h1 h2 hc1 hm1 hl1 hc2 hm2 hl2 f1 f2
  clear h1 h2 hl1 hl2
  go_enter Try.func6, Try.ntmps6
  go_wp2_with fail
  refine HC.mono ?_
  rintro e w' ⟨⟨v, rfl, ha⟩, hb⟩
  have HA : Hid (Ans w' w.heap.size v (tr (zipL (fun x y => x ^^^ y) (max (tr X).length (tr Y).length) (tr X) (tr Y))) ∧ Below w.heap.size w w') := ⟨ha, hb⟩
  clear ha hb HC
  go_wp2
  go_ret
  exact ⟨⟨v, rfl, HA.out.1⟩, HA.out.2⟩


end Go.Proofs.Ytmloigbacfllhaa
