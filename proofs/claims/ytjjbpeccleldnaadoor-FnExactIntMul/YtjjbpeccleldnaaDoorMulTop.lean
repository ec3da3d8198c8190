import Derived.Test.YtjjbpeccleldnaaDoorSumT
import Derived.Test.YtjjbpeccleldnaaDoorTimes
namespace Go.Proofs.YtjjbpeccleldnaaDoor
open Go.ChangeShapes Go.WideShapes Go.ChangeAt Go.RowKit
set_option maxRecDepth 100000 in
set_option maxHeartbeats 1000000 in
theorem implMul_any (s t : ByteArray) (w : World) (hs : s.size ≤ maxLen) (ht : t.size ≤ maxLen) (h : SP w) (hLT : LT w) :
    Calls Tryd.prog 15 #[.string s, .string t] w fun e w' => ∃ u, e = .returned (.string u) ∧ IsRes (· * ·) s t u ∧ Below w.heap.size w w' := by
  have HS : Hid (SP w) := h
  have HLT : Hid (LT w) := hLT
  clear h hLT
  by_cases hb : isIntB s = true ∧ isIntB t = true
  · have HR : Hid (∀ u, IsText ((· * ·) (numT s) (numT t)) u → IsRes (· * ·) s t u) := fun u hu => by
      show IsRes (· * ·) s t u
      unfold IsRes; rw [if_pos hb]; exact hu
    have HI : Hid (isIntB s = true ∧ isIntB t = true) := hb
    have hand : Hid ((isIntB s && isIntB t) = true) := by show (isIntB s && isIntB t) = true; rw [hb.1, hb.2]; rfl
    clear hb
    go_enter Tryd.func15, Tryd.ntmps15
    go_wp2_with fail
    refine (readPair_any s t _ hs ht).mono ?_
    rintro e w1 ⟨n, a, l, c, n', a', l', c', rfl, h1, h2, hb1⟩
    obtain ⟨rfl, hL1⟩ := h1 HI.out.1
    obtain ⟨rfl, hL2⟩ := h2 HI.out.2
    rw [hand.out]
    obtain ⟨W1, hW1⟩ : ∃ W1, (w1.alloc (.cells #[.bool (sgn s), .slice a l c] 38)).alloc (.cells #[.bool (sgn t), .slice a' l' c'] 38) = W1 := ⟨_, rfl⟩
    have hbb : Below w1.heap.size w1 W1 := by rw [← hW1]; exact ((Below.refl _ w1).alloc (Nat.le_refl _) _).alloc (by simp) _
    have HW1 := hide hW1
    have HL1 : Hid (IsI w.heap.size W1 (.agg #[.bool (sgn s), .slice a l c]) (numT s) 280) := ⟨isNeg s, _, lim s, rfl, hL1.below hbb, trimL_trim _, rfl, lim_len' s HI.out.1⟩
    have HL2 : Hid (IsI w.heap.size W1 (.agg #[.bool (sgn t), .slice a' l' c']) (numT t) 280) := ⟨isNeg t, _, lim t, rfl, hL2.below hbb, trimL_trim _, rfl, lim_len' t HI.out.2⟩
    have HB1 : Hid (Below w.heap.size w W1) := hb1.trans (hbb.mono hb1.size)
    have HS1 : Hid (SP W1) := HS.out.below HB1.out
    clear h1 h2 hb1 hL1 hL2 hbb hW1
    go_wp2_with fail
    rw [HW1.out]
    refine (times_any w.heap.size _ _ (numT s) (numT t) 280 280 _ HL1.out HL2.out (by omega) (by omega) HS1.out).mono ?_
    rintro e w2 ⟨z, rfl, hz, hb2⟩
    have HZ : Hid (IsI W1.heap.size w2 z ((· * ·) (numT s) (numT t)) (280 + 280)) := hz
    have HB2 : Hid (Below w.heap.size w w2) := HB1.out.trans (hb2.mono HB1.out.size)
    obtain ⟨sz, pz, lz, cz, hv⟩ := hz.shape
    subst hv
    clear hb2 hz
    go_wp2_with fail
    refine (textI_any _ _ _ _ _ HZ.out (by omega) (HLT.out.below HB2.out)).mono ?_
    rintro e w3 ⟨u, rfl, hu, hb3⟩
    have HU : Hid (IsRes (· * ·) s t u) := HR.out _ hu
    have HB3 : Hid (Below w.heap.size w w3) := HB2.out.trans (hb3.mono HB2.out.size)
    clear hu hb3
    go_wp2
    go_ret
    exact ⟨_, rfl, HU.out, HB3.out⟩
  · have HR : Hid (IsRes (· * ·) s t (strB [])) := by
      show IsRes (· * ·) s t (strB [])
      unfold IsRes; rw [if_neg hb]
    have hand : Hid ((isIntB s && isIntB t) = false) := by
      show (isIntB s && isIntB t) = false
      cases h1 : isIntB s
      · rfl
      · cases h2 : isIntB t
        · rfl
        · exact absurd ⟨h1, h2⟩ hb
    clear hb
    go_enter Tryd.func15, Tryd.ntmps15
    go_wp2_with fail
    refine (readPair_any s t _ hs ht).mono ?_
    rintro e w1 ⟨n, a, l, c, n', a', l', c', rfl, h1, h2, hb1⟩
    rw [hand.out]
    have HB1 : Hid (Below w.heap.size w w1) := hb1
    clear h1 h2 hb1
    go_wp2
    go_ret
    exact ⟨_, rfl, HR.out, (HB1.out.alloc HB1.out.size _).alloc (by have := HB1.out.size; simp; omega) _⟩
end Go.Proofs.YtjjbpeccleldnaaDoor
