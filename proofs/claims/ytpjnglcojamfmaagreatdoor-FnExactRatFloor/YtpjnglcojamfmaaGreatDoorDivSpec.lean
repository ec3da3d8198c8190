import Derived.Test.YtpjnglcojamfmaaGreatDoorDivX
import Derived.Test.YtpjnglcojamfmaaGreatDoorDivTop
import Derived.Deep.DeepCutAuto
namespace Go.Proofs.YtpjnglcojamfmaaGreatDoor
open Go.ChangeShapes Go.WideShapes Go.ChangeAt Go.RowKit
theorem l1Div_any (B : Nat) (za zb : Value) (na nb : Bool) (a b : List Nat) (w : World) (hBw : B ≤ w.heap.size) (hza : IsZ B w za na a) (hzb : IsZ B w zb nb b) (hla : a.length ≤ 100000) (hlb : b.length ≤ 100000) (hne : b ≠ []) :
    Calls Tryz.prog 55 #[za, zb] w fun e w' => ∃ z1 z2 q r, e = .returned (.tuple #[z1, z2]) ∧ (IsN w.heap.size w' z1 q ∧ IsN w.heap.size w' z2 r) ∧ IsDiv (sg na (val a)) (sg nb (val b)) q r ∧ Below w.heap.size w w' := by
  have hoa := hza.1; have hob := hzb.1
  have htb := hzb.2.1
  obtain ⟨x, xn, pa, la, ca, rfl, fa, ga⟩ := hza.form2
  obtain ⟨y, yn, pb, lb, cb, rfl, fb, gb⟩ := hzb.form2
  by_cases h0 : la = 0 ∧ lb = 0
  · have g1 := ga h0.1
    have g2 := gb h0.2
    rw [g1.2, g2.2]
    have l1 := sg_lt na a hoa g1.1
    have l2 := sg_lt nb b hob g2.1
    exact l1Div_small _ _ w l1.1 l1.2 l2.1 l2.2 (fun h => hne ((sg_zero_iff nb b htb).1 h))
  have hz : ((la : Int) == 0) = false ∨ (((la : Int) == 0) = true ∧ ((lb : Int) == 0) = false) := by
    by_cases h : la = 0
    · exact .inr ⟨by rw [beq_iff_eq]; omega, by rw [beq_eq_false_iff_ne]; omega⟩
    · exact .inl (by rw [beq_eq_false_iff_ne]; omega)
  have h := l1Div_big B x y xn yn pa la ca pb lb cb na nb a b w hBw hz hza hzb _ _ fa fb hla hlb hne
  rw [sg_negOf, sg_negOf] at h
  exact h
theorem foldl_pos (l : List UInt8) (a : Nat) (h : 1 ≤ a) : 1 ≤ l.foldl (fun a c => a * 10 + (c.toNat - 48)) a := by
  induction l generalizing a with
  | nil => exact h
  | cons c l ih => exact ih _ (by show 1 ≤ a * 10 + (c.toNat - 48); omega)
theorem num_pos (c : UInt8) (l : List UInt8) (h : 49 ≤ c.toNat) : 1 ≤ num (c :: l) := foldl_pos l _ (by show 1 ≤ 0 * 10 + (c.toNat - 48); omega)
theorem lim_pos (d : List UInt8) (c : UInt8) (l : List UInt8) (hd : d = c :: l) (hc : 49 ≤ c.toNat) : trimL (chunks d) ≠ [] := by
  obtain ⟨k, hk⟩ : ∃ k, cnt d.length = k + 1 := ⟨cnt d.length - 1, by rw [hd]; unfold cnt; simp; omega⟩
  have hm : 1 ≤ d.length - 9 * k ∧ d.length - 9 * k ≤ 9 := by unfold cnt at hk; rw [hd] at hk ⊢; simp at hk ⊢; omega
  have hp : chunk d k ≠ 0 := by
    unfold chunk
    rw [show d.length - 9 * k - 9 = 0 by omega, List.drop_zero]
    obtain ⟨m, hm'⟩ : ∃ m, d.length - 9 * k = m + 1 := ⟨d.length - 9 * k - 1, by omega⟩
    rw [hm', hd, List.take_succ_cons]
    have := num_pos c (l.take m) hc
    omega
  unfold chunks
  rw [hk, List.range_succ, List.map_append, List.map_cons, List.map_nil, trimL_snoc_pos _ _ hp]
  simp
theorem zero_text (t : ByteArray) (h : isIntB t = true) (h0 : (t.toList == [48]) = false) : numT t ≠ 0 := by
  intro hz
  have hl : lim t = [] := (sg_zero_iff _ _ (trimL_trim _)).1 hz
  unfold isIntB at h
  rw [h0] at h
  simp only [Bool.and_eq_true, Bool.or_false, decide_eq_true_eq, Bool.not_eq_true', decide_eq_false_iff_not, List.all_eq_true] at h
  obtain ⟨⟨⟨h1, _⟩, h3⟩, h4⟩ := h
  cases hd : (dgs t).data.toList with
  | nil => have : (dgs t).size = 0 := by show (dgs t).data.size = 0; rw [← Array.length_toList, hd]; rfl
           omega
  | cons c l =>
    rw [hd] at h3 h4
    have hc := h3 c (by simp)
    simp [isDig] at hc
    have hc2 : c ≠ 48 := by simpa using h4
    have hc3 : c.toNat ≠ 48 := fun e => hc2 (UInt8.toNat_inj.1 e)
    exact lim_pos _ c l hd (by omega) hl
theorem zero_text' (t : ByteArray) (h0 : (t.toList == [48]) = true) : numT t = 0 := by
  have h1 : t.toList = [48] := by simpa using h0
  have h2 : t = strB [48] := by
    rw [ByteArray.toList_eq] at h1
    obtain ⟨⟨l⟩⟩ := t
    simp only at h1
    subst h1
    rfl
  rw [h2]
  exact (sg_zero_iff _ _ (trimL_trim _)).2 (by kernel_rfl)
theorem toldN_any (B : Nat) (z : Value) (x : Int) (w : World) (h : IsN B w z x) (hB : B ≤ w.heap.size) :
    Calls Tryz.prog 46 #[z] w fun e w' => ∃ u, e = .returned (.string u) ∧ IsText x u ∧ Below w.heap.size w w' := by
  obtain ⟨neg, l, hz, hx⟩ := h
  refine (l1Told_any B z neg l w hz hB).mono ?_
  rintro e w' ⟨rfl, hb⟩
  exact ⟨_, rfl, ⟨neg, l, hz.1, hz.2.1, hx, rfl⟩, hb⟩
set_option maxRecDepth 100000 in
set_option maxHeartbeats 2000000 in
theorem specDiv_any (s t : ByteArray) (w : World) (hs : s.size ≤ maxLen) (ht : t.size ≤ maxLen) :
    Calls Tryz.prog 21 #[.string s, .string t] w fun e w' => ∃ u v, e = .returned (.tuple #[.string u, .string v]) ∧ IsResD s t u v ∧ Below w.heap.size w w' := by
  cases hi : isIntB s
  · have HI : Hid (isIntB s = false) := hi
    have HR : Hid (IsResD s t (strB []) (strB [])) := by
      show IsResD s t (strB []) (strB [])
      unfold IsResD; rw [if_neg (fun h => by rw [hi] at h; cases h.1)]; exact ⟨rfl, rfl⟩
    clear hi
    go_enter Tryz.func21, Tryz.ntmps21
    go_wp2_with fail
    refine (isInt_spec s _ hs).mono ?_
    rintro e w' ⟨rfl, hw'⟩
    subst w'
    rw [HI.out]
    go_wp2
    go_ret2
    exact ⟨_, _, rfl, HR.out, Below.refl _ _⟩
  have HI : Hid (isIntB s = true) := hi
  cases hj : isIntB t
  · have HJ : Hid (isIntB t = false) := hj
    have HR : Hid (IsResD s t (strB []) (strB [])) := by
      show IsResD s t (strB []) (strB [])
      unfold IsResD; rw [if_neg (fun h => by rw [hj] at h; cases h.2.1)]; exact ⟨rfl, rfl⟩
    clear hi hj
    go_enter Tryz.func21, Tryz.ntmps21
    go_wp2_with fail
    refine (isInt_spec s _ hs).mono ?_
    rintro e w' ⟨rfl, hw'⟩
    subst w'
    rw [HI.out]
    go_wp2_with fail
    refine (isInt_spec t _ ht).mono ?_
    rintro e w' ⟨rfl, hw'⟩
    subst w'
    rw [HJ.out]
    go_wp2
    go_ret2
    exact ⟨_, _, rfl, HR.out, Below.refl _ _⟩
  have HJ : Hid (isIntB t = true) := hj
  have HLL : Hid ((lim s).length ≤ 100000 ∧ (lim t).length ≤ 100000) := ⟨by have := lim_len s hi; omega, by have := lim_len t hj; omega⟩
  cases h0 : (t.toList == [48])
  · have HNZ : Hid (numT t ≠ 0) := zero_text t hj h0
    have HNE : Hid (lim t ≠ []) := fun h => HNZ.out ((sg_zero_iff _ _ (trimL_trim _)).2 h)
    have HR : Hid (∀ u v q r, IsDiv (numT s) (numT t) q r → IsText q u → IsText r v → IsResD s t u v) := fun u v q r h1 h2 h3 => by
      show IsResD s t u v
      unfold IsResD; rw [if_pos ⟨hi, hj, HNZ.out⟩]; exact ⟨q, r, h1, h2, h3⟩
    clear hi hj
    go_enter Tryz.func21, Tryz.ntmps21
    go_wp2_with fail
    refine (isInt_spec s _ hs).mono ?_
    rintro e w' ⟨rfl, hw'⟩
    subst w'
    rw [HI.out]
    go_wp2_with fail
    refine (isInt_spec t _ ht).mono ?_
    rintro e w' ⟨rfl, hw'⟩
    subst w'
    rw [HJ.out]
    go_wp2_with fail
    refine (l1Read_any s _ HI.out).mono ?_
    rintro e w1 ⟨z1, rfl, hz1, hb1⟩
    have HZ1 : Hid (IsZ w.heap.size w1 z1 (isNeg s) (lim s)) := hz1
    have HB1 : Hid (Below w.heap.size w w1) := hb1
    clear hz1 hb1
    go_wp2_with fail
    refine (l1Read_any t _ HJ.out).mono ?_
    rintro e w2 ⟨z2, rfl, hz2, hb2⟩
    have HZ2 : Hid (IsZ w.heap.size w2 z2 (isNeg t) (lim t)) := hz2.mono HB1.out.size
    have HZ1' : Hid (IsZ w.heap.size w2 z1 (isNeg s) (lim s)) := HZ1.out.below hb2
    have HB2 : Hid (Below w.heap.size w w2) := HB1.out.trans (hb2.mono HB1.out.size)
    clear hz2 hb2
    go_wp2_with fail
    refine (l1Div_any w.heap.size z1 z2 _ _ _ _ _ HB2.out.size HZ1'.out HZ2.out HLL.out.1 HLL.out.2 HNE.out).mono ?_
    rintro e w3 ⟨zq, zr, q, r, rfl, ⟨hq, hr⟩, hdv, hb3⟩
    have HQ : Hid (∀ W, Below w3.heap.size w3 W → IsN w2.heap.size W zq q) := fun W hW => hq.below hW
    have HRR : Hid (∀ W, Below w3.heap.size w3 W → IsN w2.heap.size W zr r) := fun W hW => hr.below hW
    have HDV : Hid (IsDiv (numT s) (numT t) q r) := hdv
    have HB3 : Hid (Below w.heap.size w w3) := HB2.out.trans (hb3.mono HB2.out.size)
    have HS3 : Hid (w2.heap.size ≤ w3.heap.size) := hb3.size
    obtain ⟨q0, q1, q2, q3, q4, eq⟩ := hq.shape
    obtain ⟨r0, r1, r2, r3, r4, er⟩ := hr.shape
    subst eq er
    clear hq hr hdv hb3
    obtain ⟨W4, hW4⟩ : ∃ W4, (w3.alloc (.cells #[.int .i64 q0, .bool q1, .slice q2 q3 q4] 55)).alloc (.cells #[.int .i64 r0, .bool r1, .slice r2 r3 r4] 55) = W4 := ⟨_, rfl⟩
    have HW4 := hide hW4
    have hB4 : Below w3.heap.size w3 W4 := by rw [← hW4]; exact below_al (below_alloc _ _) _
    have HBQ : Hid (∀ W, Below W4.heap.size W4 W → BoxV w3.heap.size W q0 q1 q2 q3 q4 ∧ BoxV (w3.heap.size + 1) W r0 r1 r2 r3 r4) := fun W hW => by
      have h1 : BoxV w3.heap.size W4 q0 q1 q2 q3 q4 := by rw [← hW4]; exact (boxV_new _ _ _ _ _ _ _).alloc _
      have h2 : BoxV (w3.heap.size + 1) W4 r0 r1 r2 r3 r4 := by rw [← hW4]; exact boxV_new' _ _ (by simp) _ _ _ _ _ _
      exact ⟨h1.below h1.lt hW, h2.below h2.lt hW⟩
    have HB4 : Hid (Below w3.heap.size w3 W4) := hB4
    clear hW4 hB4
    go_upto_region 4 with fail
    rw [HW4.out]
    obtain ⟨⟨_, c0, c1, c2, _, _⟩, ⟨_, d0, d1, d2, _, _⟩⟩ := HBQ.out W4 (Below.refl _ _)
    go_wp2_with fail
    go_region_with (first
      | (go_at_call_of 46 (Value.int IntKind.i64 q0); refine (toldN_any _ _ q _ (HQ.out _ (HB4.out.trans ((Below.refl _ W4).drew.mono HB4.out.size))) (by have := HS3.out; have := HB4.out.size; show w2.heap.size ≤ W4.heap.size; omega)).mono ?_
         rintro e w5 ⟨u, rfl, hu, hb5⟩
         have HU : Hid (IsText q u) := hu
         have HB5 : Hid (Below W4.heap.size W4 w5) := (Below.refl _ W4).drew.trans (hb5.mono (Nat.le_refl _))
         obtain ⟨_, ⟨_, d0', d1', d2', _, _⟩⟩ := HBQ.out w5 HB5.out
         clear hu hb5)
      | (go_at_call_of 46 (Value.int IntKind.i64 r0); refine (toldN_any _ _ r _ (HRR.out _ (HB4.out.trans (HB5.out.mono HB4.out.size))) (by have := HS3.out; have := HB4.out.size; have := HB5.out.size; omega)).mono ?_
         rintro e w6 ⟨v, rfl, hv, hb6⟩
         have HV : Hid (IsText r v) := hv
         have HB6 : Hid (Below w.heap.size w w6) := HB3.out.trans ((HB4.out.trans ((HB5.out.trans (hb6.mono HB5.out.size)).mono HB4.out.size)).mono HB3.out.size)
         clear hv hb6))
    all_goals
      try simp only [List.getElem_toArray, List.getElem_cons_succ, List.getElem_cons_zero, Act.put, List.setIfInBounds_toArray, List.set_cons_succ, List.set_cons_zero]
      go_wp2
      go_ret2
      exact ⟨_, _, rfl, HR.out _ _ _ _ HDV.out HU.out HV.out, HB6.out⟩
  · have HR : Hid (IsResD s t (strB []) (strB [])) := by
      show IsResD s t (strB []) (strB [])
      unfold IsResD; rw [if_neg (fun h => h.2.2 (zero_text' t h0))]; exact ⟨rfl, rfl⟩
    clear hi hj
    go_enter Tryz.func21, Tryz.ntmps21
    go_wp2_with fail
    refine (isInt_spec s _ hs).mono ?_
    rintro e w' ⟨rfl, hw'⟩
    subst w'
    rw [HI.out]
    go_wp2_with fail
    refine (isInt_spec t _ ht).mono ?_
    rintro e w' ⟨rfl, hw'⟩
    subst w'
    rw [HJ.out]
    go_wp2
    go_ret2
    exact ⟨_, _, rfl, HR.out, Below.refl _ _⟩
end Go.Proofs.YtpjnglcojamfmaaGreatDoor
