import Derived.Test.YtjjbpeccleldnaaWord
import Derived.Test.YtjjbpeccleldnaaReadSpec
namespace Go.Proofs.Ytjjbpeccleldnaa
open Go.ChangeShapes Go.WideShapes Go.ChangeAt Go.RowKit
/-- The limbs of an int text. -/
def lim (s : ByteArray) : List Nat := trimL (chunks (dgs s).data.toList)
def lowF (s : ByteArray) (k : Int) : Int := if isIntB s = true ∧ 1 ≤ k ∧ k ≤ 64 then lowI (negOf (isNeg s) (lim s)) (val (lim s)) k else 0
theorem lowF_yes {s : ByteArray} {k : Int} (h : isIntB s = true) (h1 : 1 ≤ k) (h2 : k ≤ 64) : lowF s k = lowI (negOf (isNeg s) (lim s)) (val (lim s)) k := if_pos ⟨h, h1, h2⟩
theorem lowF_no {s : ByteArray} {k : Int} (h : isIntB s = false ∨ k < 1 ∨ 64 < k) : lowF s k = 0 := if_neg (fun ⟨h1, h2, h3⟩ => h.elim (fun h => by rw [h1] at h; cases h) (fun h => by omega))
set_option maxHeartbeats 400000 in
theorem specLow_any (s : ByteArray) (k : Int) (w : World) (hs : s.size ≤ maxLen) :
    Calls Try.prog 7 #[.string s, .int .i64 k] w fun e w' => e = .returned (.int .u64 (lowF s k)) ∧ Below w.heap.size w w' := by
  cases hi : isIntB s
  · have HI : Hid (isIntB s = false) := hi
    have HR : Hid (lowF s k = 0) := lowF_no (.inl hi)
    clear hi
    go_enter Try.func7, Try.ntmps7
    go_wp2_with (go_at_call 5; refine (isInt_spec _ _ hs).mono ?_; rintro e w' ⟨rfl, hw'⟩; subst w'; rw [HI.out])
    go_ret
    exact ⟨ret_u64 HR.out.symm, Below.refl _ _⟩
  have HI : Hid (isIntB s = true) := hi
  clear hi
  by_cases h1 : k < 1
  · have HR : Hid (lowF s k = 0) := lowF_no (.inr (.inl h1))
    have z1 : decide (k < 1) = true := by rw [decide_eq_true_iff]; exact h1
    go_enter Try.func7, Try.ntmps7
    go_wp2_with (go_at_call 5; refine (isInt_spec _ _ hs).mono ?_; rintro e w' ⟨rfl, hw'⟩; subst w'; rw [HI.out])
    go_ret
    exact ⟨ret_u64 HR.out.symm, Below.refl _ _⟩
  have z1 : decide (k < 1) = false := by rw [decide_eq_false_iff_not]; exact h1
  by_cases h2 : 64 < k
  · have HR : Hid (lowF s k = 0) := lowF_no (.inr (.inr h2))
    have z2 : decide (64 < k) = true := by rw [decide_eq_true_iff]; exact h2
    go_enter Try.func7, Try.ntmps7
    go_wp2_with (go_at_call 5; refine (isInt_spec _ _ hs).mono ?_; rintro e w' ⟨rfl, hw'⟩; subst w'; rw [HI.out])
    go_ret
    exact ⟨ret_u64 HR.out.symm, Below.refl _ _⟩
  have z2 : decide (64 < k) = false := by rw [decide_eq_false_iff_not]; exact h2
  have HR : Hid (lowF s k = lowI (negOf (isNeg s) (lim s)) (val (lim s)) k) := lowF_yes HI.out (by omega) (by omega)
  go_enter Try.func7, Try.ntmps7
  go_wp2_with (go_at_call 5; refine (isInt_spec _ _ hs).mono ?_; rintro e w' ⟨rfl, hw'⟩; subst w'; rw [HI.out])
  refine (l1Read_any s _ HI.out).mono ?_
  rintro e w1 ⟨z, rfl, hz, hb1⟩
  have HZ : Hid (IsZ w.heap.size w1 z (isNeg s) (lim s)) := hz
  have HB1 : Hid (Below w.heap.size w w1) := hb1
  clear hz hb1
  go_wp2_with fail
  refine (l1Low_any _ z _ _ k _ HZ.out HB1.out.size (by omega) (by omega)).mono ?_
  rintro e w2 ⟨rfl, hb2⟩
  have HB2 : Hid (Below w.heap.size w w2) := HB1.out.trans (hb2.mono HB1.out.size)
  clear hb2
  rw [lowS_eq _ _ _ (by omega) (by omega)]
  go_wp2
  go_ret
  exact ⟨ret_u64 HR.out.symm, HB2.out⟩
set_option maxHeartbeats 400000 in
theorem implLow_any (s : ByteArray) (k : Int) (w : World) (hs : s.size ≤ maxLen) :
    Calls Try.prog 8 #[.string s, .int .i64 k] w fun e w' => e = .returned (.int .u64 (lowF s k)) ∧ Below w.heap.size w w' := by
  cases hi : isIntB s
  · have HI : Hid (isIntB s = false) := hi
    have HR : Hid (lowF s k = 0) := lowF_no (.inl hi)
    clear hi
    go_enter Try.func8, Try.ntmps8
    go_wp2_with fail
    refine (readInteger_no s _ hs HI.out).mono ?_
    rintro e w1 ⟨rfl, hb1⟩
    have HB1 : Hid (Below w.heap.size w w1) := hb1
    clear hb1
    go_wp2
    go_ret
    exact ⟨ret_u64 HR.out.symm, HB1.out.alloc HB1.out.size _⟩
  have HI : Hid (isIntB s = true) := hi
  clear hi
  by_cases h0 : k < 1 ∨ 64 < k
  · have HR : Hid (lowF s k = 0) := lowF_no (.inr h0)
    have z : (decide (k < 1) = true) ∨ (decide (k < 1) = false ∧ decide (64 < k) = true) := by
      rcases h0 with h | h
      · exact .inl (by rw [decide_eq_true_iff]; exact h)
      · by_cases h1 : k < 1
        · exact .inl (by rw [decide_eq_true_iff]; exact h1)
        · exact .inr ⟨by rw [decide_eq_false_iff_not]; exact h1, by rw [decide_eq_true_iff]; exact h⟩
    clear h0
    rcases z with z1 | ⟨z1, z2⟩
    all_goals
      go_enter Try.func8, Try.ntmps8
      go_wp2_with fail
      refine (readInteger_yes s _ hs HI.out).mono ?_
      rintro e w1 ⟨v, rfl, hv, hb1⟩
      obtain ⟨a, cap, rfl, _⟩ := hv
      have HB1 : Hid (Below w.heap.size w w1) := hb1
      clear hb1
      go_wp2
      go_ret
      exact ⟨ret_u64 HR.out.symm, HB1.out.alloc HB1.out.size _⟩
  have z1 : decide (k < 1) = false := by rw [decide_eq_false_iff_not]; omega
  have z2 : decide (64 < k) = false := by rw [decide_eq_false_iff_not]; omega
  have HR : Hid (lowF s k = lowI (negOf (isNeg s) (lim s)) (val (lim s)) k) := lowF_yes HI.out (by omega) (by omega)
  obtain ⟨ng, hng⟩ : ∃ ng, negOf (isNeg s) (lim s) = ng := ⟨_, rfl⟩
  have HNG : Hid (negOf (isNeg s) (lim s) = ng) := hng
  clear hng
  go_enter Try.func8, Try.ntmps8
  go_wp2_with fail
  refine (readInteger_yes s _ hs HI.out).mono ?_
  rintro e w1 ⟨v, rfl, hv, hb1⟩
  have HV : Hid (∀ o, IsL w.heap.size (w1.alloc o) v (lim s)) := fun o => hv.below (below_alloc w1 o)
  obtain ⟨a, cap, rfl, _⟩ := hv
  have HB1 : Hid (Below w.heap.size w w1) := hb1
  clear hb1
  have e1 : negOf (isNeg s) (trimL (chunks (dgs s).data.toList)) = ng := HNG.out
  rw [e1]
  clear e1
  go_wp2_with fail
  refine (lowBits_any _ _ _ _ k _ (HV.out _) (by omega) (by omega)).mono ?_
  rintro e w2 ⟨rfl, hb2⟩
  have HB2 : Hid (Below w.heap.size w w2) := (HB1.out.alloc HB1.out.size _).trans (hb2.mono (by have := HB1.out.size; simp; omega))
  clear hb2
  go_wp2
  go_ret
  exact ⟨ret_u64 (by rw [HR.out, HNG.out]), HB2.out⟩
end Go.Proofs.Ytjjbpeccleldnaa
