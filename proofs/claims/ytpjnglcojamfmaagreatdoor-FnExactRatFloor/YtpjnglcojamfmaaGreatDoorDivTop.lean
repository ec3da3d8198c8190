import Derived.Test.YtpjnglcojamfmaaGreatDoorDivF
import Derived.Test.YtpjnglcojamfmaaGreatDoorSumT
namespace Go.Proofs.YtpjnglcojamfmaaGreatDoor
open Go.ChangeShapes Go.WideShapes Go.ChangeAt Go.RowKit
theorem sg_zero_iff (n : Bool) (l : List Nat) (ht : isTrim l) : sg n (val l) = 0 ↔ l = [] := by
  constructor
  · intro h
    apply Classical.byContradiction
    intro hne
    have := val_pos l ht hne
    cases n <;> simp [sg] at h <;> omega
  · rintro rfl
    cases n <;> simp [sg, val]
theorem dividedBy_any (B : Nat) (za zb : Value) (x y : Int) (n m : Nat) (w : World) (hBw : B ≤ w.heap.size) (ha : IsI B w za x n) (hb : IsI B w zb y m) (hy : y ≠ 0) (hn : n ≤ 90000) (hm : m ≤ 90000) (hSP : SP w) :
    Calls Tryz.prog 51 #[za, zb] w fun e w' => ∃ z1 z2 q r, e = .returned (.tuple #[z1, z2]) ∧ IsI B w' z1 q (n + 2) ∧ IsI B w' z2 r (m + 3) ∧ IsDiv x y q r ∧ Below w.heap.size w w' := by
  obtain ⟨na, va, a, rfl, hva, ta, rfl, hla⟩ := ha
  obtain ⟨nb, vb, b, rfl, hvb, tb, rfl, hlb⟩ := hb
  have hne : b ≠ [] := fun h => hy ((sg_zero_iff nb b tb).2 h)
  rw [← sg_negOf na a, ← sg_negOf nb b]
  refine (divided_raw B _ _ va vb a b w hBw hva hvb (by omega) (by omega) ta tb hne hSP).mono ?_
  rintro e w' ⟨z1, z2, q, r, h1, h2, h3, h4, h5⟩
  exact ⟨z1, z2, q, r, h1, h2.mono (Nat.le_refl _) (by omega), h3.mono (Nat.le_refl _) (by omega), h4, h5⟩
/-- What both sides of IntDiv answer. -/
def IsResD (s t u v : ByteArray) : Prop := if isIntB s = true ∧ isIntB t = true ∧ numT t ≠ 0 then ∃ q r, IsDiv (numT s) (numT t) q r ∧ IsText q u ∧ IsText r v else u = strB [] ∧ v = strB []
theorem IsResD.eq {s t u v u' v' : ByteArray} (h : IsResD s t u v) (h' : IsResD s t u' v') : u = u' ∧ v = v' := by
  unfold IsResD at h h'
  split at h
  · rename_i hc
    rw [if_pos hc] at h'
    obtain ⟨q, r, h1, h2, h3⟩ := h
    obtain ⟨q', r', k1, k2, k3⟩ := h'
    obtain ⟨rfl, rfl⟩ := isDiv_unique h1 k1
    exact ⟨h2.eq k2, h3.eq k3⟩
  · rename_i hc
    rw [if_neg hc] at h'
    exact ⟨by rw [h.1, h'.1], by rw [h.2, h'.2]⟩
set_option maxRecDepth 100000 in
set_option maxHeartbeats 2000000 in
theorem implDiv_any (s t : ByteArray) (w : World) (hs : s.size ≤ maxLen) (ht : t.size ≤ maxLen) (h : SP w) (hLT : LT w) :
    Calls Tryz.prog 17 #[.string s, .string t] w fun e w' => ∃ u v, e = .returned (.tuple #[.string u, .string v]) ∧ IsResD s t u v ∧ Below w.heap.size w w' := by
  have HS : Hid (SP w) := h
  have HLT : Hid (LT w) := hLT
  clear h hLT
  by_cases hb : isIntB s = true ∧ isIntB t = true
  · have HI : Hid (isIntB s = true ∧ isIntB t = true) := hb
    have hand : Hid ((isIntB s && isIntB t) = true) := by show (isIntB s && isIntB t) = true; rw [hb.1, hb.2]; rfl
    have HR : Hid (∀ u v, IsResD s t u v ↔ if numT t ≠ 0 then ∃ q r, IsDiv (numT s) (numT t) q r ∧ IsText q u ∧ IsText r v else u = strB [] ∧ v = strB []) := fun u v => by
      unfold IsResD
      by_cases h0 : numT t ≠ 0
      · rw [if_pos ⟨hb.1, hb.2, h0⟩, if_pos h0]
      · rw [if_neg (fun h => h0 h.2.2), if_neg h0]
    have hz : numT t = 0 ↔ lim t = [] := sg_zero_iff _ _ (trimL_trim _)
    have hlz : lim t = [] ↔ (lim t).length = 0 := by constructor <;> intro h <;> simp_all
    have HZ : Hid (numT t = 0 ↔ (lim t).length = 0) := hz.trans hlz
    clear hb hz hlz
    go_enter Tryz.func17, Tryz.ntmps17
    go_wp2_with fail
    refine (readPair_any s t _ hs ht).mono ?_
    rintro e w1 ⟨n, a, l, c, n', a', l', c', rfl, h1, h2, hb1⟩
    obtain ⟨rfl, hL1⟩ := h1 HI.out.1
    obtain ⟨rfl, hL2⟩ := h2 HI.out.2
    rw [hand.out]
    have hll : l' = (lim t).length := by obtain ⟨_, _, e, _⟩ := hL2; simp at e; exact e.2.1
    obtain ⟨W1, hW1⟩ : ∃ W1, (w1.alloc (.cells #[.bool (sgn s), .slice a l c] 47)).alloc (.cells #[.bool (sgn t), .slice a' l' c'] 47) = W1 := ⟨_, rfl⟩
    have hbb : Below w1.heap.size w1 W1 := by rw [← hW1]; exact ((Below.refl _ w1).alloc (Nat.le_refl _) _).alloc (by simp) _
    have HW1 := hide hW1
    have HL1 : Hid (IsI w.heap.size W1 (.agg #[.bool (sgn s), .slice a l c]) (numT s) 280) := ⟨isNeg s, _, lim s, rfl, hL1.below hbb, trimL_trim _, rfl, lim_len' s HI.out.1⟩
    have HL2 : Hid (IsI w.heap.size W1 (.agg #[.bool (sgn t), .slice a' l' c']) (numT t) 280) := ⟨isNeg t, _, lim t, rfl, hL2.below hbb, trimL_trim _, rfl, lim_len' t HI.out.2⟩
    have HB1 : Hid (Below w.heap.size w W1) := hb1.trans (hbb.mono hb1.size)
    have HS1 : Hid (SP W1) := HS.out.below HB1.out
    have HLL : Hid (l' = (lim t).length) := hll
    clear h1 h2 hb1 hL1 hL2 hbb hW1 hll
    have hsz1 : W1.heap.size = w1.heap.size + 2 := by rw [← HW1.out]; simp
    have HXY : Hid (∀ W, Below W1.heap.size W1 W → W.cell? ⟨w1.heap.size, 0, none⟩ = some (.bool (sgn s)) ∧ W.cell? ⟨w1.heap.size, 1, none⟩ = some (.slice a l c) ∧ W.cell? ⟨w1.heap.size + 1, 0, none⟩ = some (.bool (sgn t)) ∧ W.cell? ⟨w1.heap.size + 1, 1, none⟩ = some (.slice a' l' c')) := fun W hW => by
      have q : ∀ k, k < 2 → ∀ i, W.cell? ⟨w1.heap.size + k, i, none⟩ = W1.cell? ⟨w1.heap.size + k, i, none⟩ := fun k hk i => hW.cell (p := ⟨w1.heap.size + k, i, none⟩) (by show w1.heap.size + k < W1.heap.size; omega)
      refine ⟨(q 0 (by omega) 0).trans ?_, (q 0 (by omega) 1).trans ?_, (q 1 (by omega) 0).trans ?_, (q 1 (by omega) 1).trans ?_⟩
      · rw [← HW1.out, World.cell?_alloc_past _ _ _ (by simp), World.cell?_alloc_at _ _ _ _ (by simp)]; rfl
      · rw [← HW1.out, World.cell?_alloc_past _ _ _ (by simp), World.cell?_alloc_at _ _ _ _ (by simp)]; rfl
      · rw [← HW1.out, World.cell?_alloc_at _ _ _ _ (by simp)]; rfl
      · rw [← HW1.out, World.cell?_alloc_at _ _ _ _ (by simp)]; rfl
    have HSZ1 : Hid (W1.heap.size = w1.heap.size + 2) := hsz1
    go_wp2_with fail
    rw [HW1.out]
    refine (isZero_any _ _ _ _ _).mono ?_
    rintro e w2 ⟨rfl, hw2⟩
    have HB2 : Hid (Below W1.heap.size W1 w2) := by rw [hw2]; exact below_alloc _ _
    clear hw2 hsz1
    by_cases hz : l' = 0
    · have HE : Hid (IsResD s t (strB []) (strB [])) := by
        refine (HR.out _ _).2 ?_
        rw [if_neg (fun h => h (HZ.out.2 (HLL.out.symm.trans hz)))]
        exact ⟨rfl, rfl⟩
      have z : ((l' : Int) == 0) = true := by rw [beq_iff_eq]; omega
      have HBE : Hid (Below w.heap.size w w2) := HB1.out.trans (HB2.out.mono HB1.out.size)
      rw [z]
      go_wp2
      go_ret2
      exact ⟨_, _, rfl, HE.out, HBE.out⟩
    · have z : ((l' : Int) == 0) = false := by rw [beq_eq_false_iff_ne]; omega
      have HNZ : Hid (numT t ≠ 0) := fun h => hz (HLL.out.trans (HZ.out.1 h))
      obtain ⟨x0, x1, y0, y1⟩ := HXY.out _ HB2.out
      rw [z]
      go_wp2_with fail
      refine (dividedBy_any w.heap.size _ _ (numT s) (numT t) 280 280 _ (HB1.out.trans (HB2.out.mono HB1.out.size)).size (HL1.out.below HB2.out) (HL2.out.below HB2.out) HNZ.out (by omega) (by omega) (HS1.out.below HB2.out)).mono ?_
      rintro e w3 ⟨z1, z2, q, r, rfl, hz1, hz2, hdv, hb3⟩
      have HB3 : Hid (Below W1.heap.size W1 w3) := HB2.out.trans (hb3.mono HB2.out.size)
      have HQ : Hid (∀ W, Below w3.heap.size w3 W → IsI w.heap.size W z1 q 282) := fun W hW => hz1.below hW
      have HRR : Hid (∀ W, Below w3.heap.size w3 W → IsI w.heap.size W z2 r 283) := fun W hW => hz2.below hW
      have HDV : Hid (IsDiv (numT s) (numT t) q r) := hdv
      have HF : Hid (∀ W, Below w3.heap.size w3 W → Below w.heap.size w W) := fun W hW => HB1.out.trans ((HB3.out.trans (hW.mono HB3.out.size)).mono HB1.out.size)
      obtain ⟨s1, p1, l1, c1, hv1⟩ := hz1.shape
      obtain ⟨s2, p2, l2, c2, hv2⟩ := hz2.shape
      subst hv1 hv2
      clear hz1 hz2 hdv hb3 x0 x1 y0 y1
      obtain ⟨W4, hW4⟩ : ∃ W4, (w3.alloc (.cells #[.bool s1, .slice p1 l1 c1] 47)).alloc (.cells #[.bool s2, .slice p2 l2 c2] 47) = W4 := ⟨_, rfl⟩
      have HW4 := hide hW4
      have hB4 : Below w3.heap.size w3 W4 := by rw [← hW4]; exact below_al (below_alloc _ _) _
      have hsz4 : W4.heap.size = w3.heap.size + 2 := by rw [← hW4]; simp
      have HXY4 : Hid (∀ W, Below W4.heap.size W4 W → W.cell? ⟨w3.heap.size, 0, none⟩ = some (.bool s1) ∧ W.cell? ⟨w3.heap.size, 1, none⟩ = some (.slice p1 l1 c1) ∧ W.cell? ⟨w3.heap.size + 1, 0, none⟩ = some (.bool s2) ∧ W.cell? ⟨w3.heap.size + 1, 1, none⟩ = some (.slice p2 l2 c2)) := fun W hW => by
        have q : ∀ k, k < 2 → ∀ i, W.cell? ⟨w3.heap.size + k, i, none⟩ = W4.cell? ⟨w3.heap.size + k, i, none⟩ := fun k hk i => hW.cell (p := ⟨w3.heap.size + k, i, none⟩) (by show w3.heap.size + k < W4.heap.size; omega)
        refine ⟨(q 0 (by omega) 0).trans ?_, (q 0 (by omega) 1).trans ?_, (q 1 (by omega) 0).trans ?_, (q 1 (by omega) 1).trans ?_⟩
        · rw [← hW4, World.cell?_alloc_past _ _ _ (by simp), World.cell?_alloc_at _ _ _ _ (by simp)]; rfl
        · rw [← hW4, World.cell?_alloc_past _ _ _ (by simp), World.cell?_alloc_at _ _ _ _ (by simp)]; rfl
        · rw [← hW4, World.cell?_alloc_at _ _ _ _ (by simp)]; rfl
        · rw [← hW4, World.cell?_alloc_at _ _ _ _ (by simp)]; rfl
      have HB4 : Hid (Below w3.heap.size w3 W4) := hB4
      clear hW4 hB4 hsz4
      go_wp2_with fail
      rw [HW4.out]
      obtain ⟨x0, x1, y0, y1⟩ := HXY4.out W4 (Below.refl _ _)
      go_region_with (first
        | (go_at_call_of 44 (Value.slice p1 l1 c1); refine (textI_any _ _ q 282 _ (HQ.out _ (HB4.out.trans ((Below.refl _ W4).drew.mono HB4.out.size))) (by omega) (HLT.out.below (HF.out _ (HB4.out.trans ((Below.refl _ W4).drew.mono HB4.out.size))))).mono ?_
           rintro e w5 ⟨u, rfl, hu, hb5⟩
           have HU : Hid (IsText q u) := hu
           have HB5 : Hid (Below W4.heap.size W4 w5) := (Below.refl _ W4).drew.trans (hb5.mono (Nat.le_refl _))
           obtain ⟨p0', p1', q0', q1'⟩ := HXY4.out w5 HB5.out
           clear hu hb5)
        | (go_at_call_of 44 (Value.slice p2 l2 c2); refine (textI_any _ _ r 283 _ (HRR.out _ (HB4.out.trans (HB5.out.mono HB4.out.size))) (by omega) (HLT.out.below (HF.out _ (HB4.out.trans (HB5.out.mono HB4.out.size))))).mono ?_
           rintro e w6 ⟨v, rfl, hv, hb6⟩
           have HV : Hid (IsText r v) := hv
           have HB6 : Hid (Below w.heap.size w w6) := HF.out _ (HB4.out.trans ((HB5.out.trans (hb6.mono HB5.out.size)).mono HB4.out.size))
           clear hv hb6))
      all_goals
        try simp only [List.getElem_toArray, List.getElem_cons_succ, List.getElem_cons_zero, Act.put, List.setIfInBounds_toArray, List.set_cons_succ, List.set_cons_zero]
        have HE : Hid (IsResD s t u v) := by
          refine (HR.out _ _).2 ?_
          rw [if_pos HNZ.out]
          exact ⟨q, r, HDV.out, HU.out, HV.out⟩
        go_wp2
        go_ret2
        exact ⟨_, _, rfl, HE.out, HB6.out⟩
  · have HR : Hid (IsResD s t (strB []) (strB [])) := by
      show IsResD s t (strB []) (strB [])
      unfold IsResD; rw [if_neg (fun h => hb ⟨h.1, h.2.1⟩)]; exact ⟨rfl, rfl⟩
    have hand : Hid ((isIntB s && isIntB t) = false) := by
      show (isIntB s && isIntB t) = false
      cases h1 : isIntB s
      · rfl
      · cases h2 : isIntB t
        · rfl
        · exact absurd ⟨h1, h2⟩ hb
    clear hb
    go_enter Tryz.func17, Tryz.ntmps17
    go_wp2_with fail
    refine (readPair_any s t _ hs ht).mono ?_
    rintro e w1 ⟨n, a, l, c, n', a', l', c', rfl, h1, h2, hb1⟩
    rw [hand.out]
    have HB1 : Hid (Below w.heap.size w w1) := hb1
    clear h1 h2 hb1
    go_wp2
    go_ret2
    exact ⟨_, _, rfl, HR.out, (HB1.out.alloc HB1.out.size _).alloc (by have := HB1.out.size; simp; omega) _⟩
end Go.Proofs.YtpjnglcojamfmaaGreatDoor
