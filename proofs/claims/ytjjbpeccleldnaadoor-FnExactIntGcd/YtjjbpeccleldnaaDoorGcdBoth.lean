import Derived.Test.YtjjbpeccleldnaaDoorGcdSpec
import Derived.Test.YtjjbpeccleldnaaDoorGcdI
namespace Go.Proofs.YtjjbpeccleldnaaDoor
open Go.ChangeShapes Go.WideShapes Go.ChangeAt Go.RowKit
set_option maxRecDepth 100000 in
set_option maxHeartbeats 1000000 in
theorem specGcd_any (s t : ByteArray) (w : World) (hs : s.size ≤ maxLen) (ht : t.size ≤ maxLen) :
    Calls Tryd.prog 18 #[.string s, .string t] w fun e w' => ∃ u, e = .returned (.string u) ∧ IsRes gcdI s t u ∧ Below w.heap.size w w' := by
  cases hi : isIntB s
  · have HI : Hid (isIntB s = false) := hi
    have HR : Hid (IsRes gcdI s t (strB [])) := by
      show IsRes _ s t (strB [])
      unfold IsRes; rw [if_neg (fun h => by rw [hi] at h; cases h.1)]
    clear hi
    go_enter Tryd.func18, Tryd.ntmps18
    go_wp2_with (go_at_call 24; refine (isInt_spec _ _ hs).mono ?_; rintro e w' ⟨rfl, hw'⟩; subst w'; rw [HI.out])
    go_ret
    exact ⟨_, rfl, HR.out, Below.refl _ _⟩
  have HI : Hid (isIntB s = true) := hi
  cases hj : isIntB t
  · have HJ : Hid (isIntB t = false) := hj
    have HR : Hid (IsRes gcdI s t (strB [])) := by
      show IsRes _ s t (strB [])
      unfold IsRes; rw [if_neg (fun h => by rw [hj] at h; cases h.2)]
    clear hi hj
    go_enter Tryd.func18, Tryd.ntmps18
    go_wp2_with fail
    refine (isInt_spec s _ hs).mono ?_
    rintro e w' ⟨rfl, hw'⟩
    subst w'
    rw [HI.out]
    go_wp2_with fail
    refine (isInt_spec t _ ht).mono ?_
    rintro e w' ⟨rfl, hw'⟩
    subst w'
    rw [HJ.out]
    go_wp2
    go_ret
    exact ⟨_, rfl, HR.out, Below.refl _ _⟩
  have HJ : Hid (isIntB t = true) := hj
  have HR : Hid (∀ u, IsText (gcdI (numT s) (numT t)) u → IsRes gcdI s t u) := fun u hu => by
    show IsRes _ s t u
    unfold IsRes; rw [if_pos ⟨hi, hj⟩]; exact hu
  have HLL : Hid ((lim s).length ≤ 100000 ∧ (lim t).length ≤ 100000) := ⟨by have := lim_len s hi; omega, by have := lim_len t hj; omega⟩
  clear hi hj
  go_enter Tryd.func18, Tryd.ntmps18
  go_wp2_with fail
  refine (isInt_spec s _ hs).mono ?_
  rintro e w' ⟨rfl, hw'⟩
  subst w'
  rw [HI.out]
  go_wp2_with fail
  refine (isInt_spec t _ ht).mono ?_
  rintro e w' ⟨rfl, hw'⟩
  subst w'
  rw [HJ.out]
  go_wp2_with fail
  refine (l1Read_any s _ HI.out).mono ?_
  rintro e w1 ⟨z1, rfl, hz1, hb1⟩
  have HZ1 : Hid (IsZ w.heap.size w1 z1 (isNeg s) (lim s)) := hz1
  have HB1 : Hid (Below w.heap.size w w1) := hb1
  clear hz1 hb1
  go_wp2_with fail
  refine (l1Read_any t _ HJ.out).mono ?_
  rintro e w2 ⟨z2, rfl, hz2, hb2⟩
  have HZ2 : Hid (IsZ w.heap.size w2 z2 (isNeg t) (lim t)) := hz2.mono HB1.out.size
  have HZ1' : Hid (IsZ w.heap.size w2 z1 (isNeg s) (lim s)) := HZ1.out.below hb2
  have HB2 : Hid (Below w.heap.size w w2) := HB1.out.trans (hb2.mono HB1.out.size)
  clear hz2 hb2
  go_wp2_with fail
  refine (l1Gcd_any _ z1 z2 _ _ _ _ 100000 _ HB2.out.size HZ1'.out HZ2.out HLL.out.1 HLL.out.2 (Nat.le_refl _)).mono ?_
  rintro e w3 ⟨z3, rfl, ⟨n3, t3, hz3, hv3⟩, hb3⟩
  have HZ3 : Hid (IsZ w.heap.size w3 z3 n3 t3) := hz3
  have HB3 : Hid (Below w.heap.size w w3) := HB2.out.trans (hb3.mono HB2.out.size)
  have HT3 : Hid (IsText (gcdI (numT s) (numT t)) (textT (negOf n3 t3) t3)) := ⟨n3, t3, hz3.1, hz3.2.1, hv3, rfl⟩
  have HS3 : Hid (w.heap.size ≤ w3.heap.size) := HB3.out.size
  clear hz3 hv3 hb3
  go_wp2_with fail
  refine (l1Told_any _ z3 n3 t3 _ HZ3.out HS3.out).mono ?_
  rintro e w4 ⟨rfl, hb4⟩
  have HB4 : Hid (Below w.heap.size w w4) := HB3.out.trans (hb4.mono HB3.out.size)
  clear hb4
  go_wp2
  go_ret
  exact ⟨_, rfl, HR.out _ HT3.out, HB4.out⟩
end Go.Proofs.YtjjbpeccleldnaaDoor
