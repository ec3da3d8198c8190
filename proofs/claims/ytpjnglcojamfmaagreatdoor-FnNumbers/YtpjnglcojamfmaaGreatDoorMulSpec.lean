import Derived.Test.YtpjnglcojamfmaaGreatDoorMulB
import Derived.Test.YtpjnglcojamfmaaGreatDoorSpecSum
namespace Go.Proofs.YtpjnglcojamfmaaGreatDoor
open Go.ChangeShapes Go.WideShapes Go.ChangeAt Go.RowKit
theorem l1Mul_any (B : Nat) (za zb : Value) (na nb : Bool) (a b : List Nat) (w : World) (hBw : B ≤ w.heap.size) (hza : IsZ B w za na a) (hzb : IsZ B w zb nb b) (hla : a.length ≤ 100000) (hlb : b.length ≤ 100000) :
    Calls Tryz.prog 52 #[za, zb] w fun e w' => ∃ z, e = .returned z ∧ IsN w.heap.size w' z (sg na (val a) * sg nb (val b)) ∧ Below w.heap.size w w' := by
  have hoa := hza.1; have hob := hzb.1
  obtain ⟨x, xn, pa, la, ca, rfl, fa, ga⟩ := hza.form2
  obtain ⟨y, yn, pb, lb, cb, rfl, fb, gb⟩ := hzb.form2
  by_cases h0 : la = 0 ∧ lb = 0
  · have g1 := ga h0.1
    have g2 := gb h0.2
    have l1 := sg_lt na a hoa g1.1
    have l2 := sg_lt nb b hob g2.1
    by_cases hs : (sg na (val a)).natAbs = 0 ∨ (sg na (val a)).natAbs ≠ 0 ∧ (sg nb (val b)).natAbs ≤ 999999999999999999 / (sg na (val a)).natAbs
    · rw [g1.2, g2.2]
      exact l1Mul_small _ _ w l1.1 l1.2 l2.1 l2.2 hs
    · have e1 := g1.2
      have e2 := g2.2
      simp only [Value.agg.injEq, Array.mk.injEq, List.cons.injEq, Value.int.injEq, true_and, Value.bool.injEq, Value.slice.injEq, and_true] at e1 e2
      obtain ⟨rfl, _⟩ := e1
      obtain ⟨rfl, _⟩ := e2
      have hp : 0 < (sg na (val a)).natAbs := by
        apply Nat.pos_of_ne_zero
        intro h
        exact hs (.inl h)
      have hz : ((la : Int) == 0) = true ∧ ((lb : Int) == 0) = true ∧ (-1000000000000000000 < sg na (val a) ∧ sg na (val a) < 1000000000000000000) ∧ (-1000000000000000000 < sg nb (val b) ∧ sg nb (val b) < 1000000000000000000) ∧ 0 < (sg na (val a)).natAbs ∧ 999999999999999999 / (sg na (val a)).natAbs < (sg nb (val b)).natAbs := by
        refine ⟨by rw [beq_iff_eq]; omega, by rw [beq_iff_eq]; omega, l1, l2, hp, ?_⟩
        apply Nat.lt_of_not_le
        intro h
        exact hs (.inr ⟨by omega, h⟩)
      have h := l1Mul_big B _ _ xn yn pa la ca pb lb cb na nb a b w hBw (.inr (.inr hz)) hza hzb _ _ fa fb hla hlb
      rw [sg_negOf, sg_negOf] at h
      exact h
  have hz : ((la : Int) == 0) = false ∨ (((la : Int) == 0) = true ∧ ((lb : Int) == 0) = false) := by
    by_cases h : la = 0
    · exact .inr ⟨by rw [beq_iff_eq]; omega, by rw [beq_eq_false_iff_ne]; omega⟩
    · exact .inl (by rw [beq_eq_false_iff_ne]; omega)
  have h := l1Mul_big B x y xn yn pa la ca pb lb cb na nb a b w hBw (hz.elim .inl (fun h => .inr (.inl h))) hza hzb _ _ fa fb hla hlb
  rw [sg_negOf, sg_negOf] at h
  exact h
set_option maxRecDepth 100000 in
set_option maxHeartbeats 1000000 in
theorem specMul_any (s t : ByteArray) (w : World) (hs : s.size ≤ maxLen) (ht : t.size ≤ maxLen) :
    Calls Tryz.prog 18 #[.string s, .string t] w fun e w' => ∃ u, e = .returned (.string u) ∧ IsRes (· * ·) s t u ∧ Below w.heap.size w w' := by
  cases hi : isIntB s
  · have HI : Hid (isIntB s = false) := hi
    have HR : Hid (IsRes (· * ·) s t (strB [])) := by
      show IsRes _ s t (strB [])
      unfold IsRes; rw [if_neg (fun h => by rw [hi] at h; cases h.1)]
    clear hi
    go_enter Tryz.func18, Tryz.ntmps18
    go_wp2_with (go_at_call 12; refine (isInt_spec _ _ hs).mono ?_; rintro e w' ⟨rfl, hw'⟩; subst w'; rw [HI.out])
    go_ret
    exact ⟨_, rfl, HR.out, Below.refl _ _⟩
  have HI : Hid (isIntB s = true) := hi
  cases hj : isIntB t
  · have HJ : Hid (isIntB t = false) := hj
    have HR : Hid (IsRes (· * ·) s t (strB [])) := by
      show IsRes _ s t (strB [])
      unfold IsRes; rw [if_neg (fun h => by rw [hj] at h; cases h.2)]
    clear hi hj
    go_enter Tryz.func18, Tryz.ntmps18
    go_wp2_with fail
    refine (isInt_spec s _ hs).mono ?_
    rintro e w' ⟨rfl, hw'⟩
    subst w'
    rw [HI.out]
    go_wp2_with fail
    refine (isInt_spec t _ ht).mono ?_
    rintro e w' ⟨rfl, hw'⟩
    subst w'
    rw [HJ.out]
    go_wp2
    go_ret
    exact ⟨_, rfl, HR.out, Below.refl _ _⟩
  have HJ : Hid (isIntB t = true) := hj
  have HR : Hid (∀ u, IsText ((· * ·) (numT s) (numT t)) u → IsRes (· * ·) s t u) := fun u hu => by
    show IsRes _ s t u
    unfold IsRes; rw [if_pos ⟨hi, hj⟩]; exact hu
  have HLL : Hid ((lim s).length ≤ 100000 ∧ (lim t).length ≤ 100000) := ⟨by have := lim_len s hi; omega, by have := lim_len t hj; omega⟩
  clear hi hj
  go_enter Tryz.func18, Tryz.ntmps18
  go_wp2_with fail
  refine (isInt_spec s _ hs).mono ?_
  rintro e w' ⟨rfl, hw'⟩
  subst w'
  rw [HI.out]
  go_wp2_with fail
  refine (isInt_spec t _ ht).mono ?_
  rintro e w' ⟨rfl, hw'⟩
  subst w'
  rw [HJ.out]
  go_wp2_with fail
  refine (l1Read_any s _ HI.out).mono ?_
  rintro e w1 ⟨z1, rfl, hz1, hb1⟩
  have HZ1 : Hid (IsZ w.heap.size w1 z1 (isNeg s) (lim s)) := hz1
  have HB1 : Hid (Below w.heap.size w w1) := hb1
  clear hz1 hb1
  go_wp2_with fail
  refine (l1Read_any t _ HJ.out).mono ?_
  rintro e w2 ⟨z2, rfl, hz2, hb2⟩
  have HZ2 : Hid (IsZ w.heap.size w2 z2 (isNeg t) (lim t)) := hz2.mono HB1.out.size
  have HZ1' : Hid (IsZ w.heap.size w2 z1 (isNeg s) (lim s)) := HZ1.out.below hb2
  have HB2 : Hid (Below w.heap.size w w2) := HB1.out.trans (hb2.mono HB1.out.size)
  clear hz2 hb2
  go_wp2_with fail
  refine (l1Mul_any _ z1 z2 _ _ _ _ _ HB2.out.size HZ1'.out HZ2.out HLL.out.1 HLL.out.2).mono ?_
  rintro e w3 ⟨z3, rfl, ⟨n3, t3, hz3, hv3⟩, hb3⟩
  have HZ3 : Hid (IsZ w2.heap.size w3 z3 n3 t3) := hz3
  have HB3 : Hid (Below w.heap.size w w3) := HB2.out.trans (hb3.mono HB2.out.size)
  have HT3 : Hid (IsText ((· * ·) (numT s) (numT t)) (textT (negOf n3 t3) t3)) := ⟨n3, t3, hz3.1, hz3.2.1, hv3, rfl⟩
  have HS3 : Hid (w2.heap.size ≤ w3.heap.size) := hb3.size
  clear hz3 hv3 hb3
  go_wp2_with fail
  refine (l1Told_any _ z3 n3 t3 _ HZ3.out HS3.out).mono ?_
  rintro e w4 ⟨rfl, hb4⟩
  have HB4 : Hid (Below w.heap.size w w4) := HB3.out.trans (hb4.mono HB3.out.size)
  clear hb4
  go_wp2
  go_ret
  exact ⟨_, rfl, HR.out _ HT3.out, HB4.out⟩
end Go.Proofs.YtpjnglcojamfmaaGreatDoor
