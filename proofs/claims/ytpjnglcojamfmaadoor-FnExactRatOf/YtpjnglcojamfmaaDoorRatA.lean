import Derived.Test.YtpjnglcojamfmaaDoorRC
import Derived.Test.YtpjnglcojamfmaaDoorDivTop
import Derived.Deep.DeepCutAuto
namespace Go.Proofs.YtpjnglcojamfmaaDoor
open Go.ChangeShapes Go.WideShapes Go.ChangeAt Go.RowKit
/-- A block with no limbs keeps the limbs of others where it is written. -/
theorem noInt_of {W : World} {g : Nat} {l : List Value} (h : Bx W g l) (hl : ∀ v ∈ l, ∀ x, v ≠ .int .u32 x) : NoInt W g := fun i x => by
  rw [h.cell i]
  intro e
  exact hl _ (List.mem_of_getElem? e) x rfl
theorem IsL.put2 {B : Nat} {W : World} {v : Value} {l : List Nat} (h : IsL B W v l) {g : Nat} (n : NoInt W g) (u0 u1 : Value) : IsL B ((W.setCell ⟨g, 0, none⟩ u0).setCell ⟨g, 1, none⟩ u1) v l :=
  h.keeps n n (Keeps.setCell (Keeps.setCell (Keeps.refl g g W) ⟨g, 0, none⟩ u0 (Or.inl rfl)) ⟨g, 1, none⟩ u1 (Or.inl rfl))
theorem set2 {N : Nat} {w W : World} (h : Below N w W) (g : Nat) (hg : N ≤ g) (u0 u1 : Value) : Below N w ((W.setCell ⟨g, 0, none⟩ u0).setCell ⟨g, 1, none⟩ u1) :=
  (h.setCell (p := ⟨g, 0, none⟩) hg u0).setCell (p := ⟨g, 1, none⟩) hg u1
set_option maxRecDepth 100000 in
set_option maxHeartbeats 1000000 in
theorem wholeNumber_any (n : Nat) (w : World) (hn : n < 18446744073709551616) :
    Calls Tryd.prog 44 #[.int .u64 (n : Nat)] w fun e w' => ∃ z, e = .returned z ∧ IsI w.heap.size w' z (n : Nat) 3 ∧ Below w.heap.size w w' := by
  obtain ⟨W0, hW0⟩ : ∃ W0, w.alloc (.cells #[.bool false, .slice none 0 0] 33) = W0 := ⟨_, rfl⟩
  have HW0 := hidG hW0
  have hbx : Bx W0 w.heap.size [.bool false, .slice none 0 0] := by rw [← hW0]; exact bx_new w _ _
  have HB0 : Hid (Below w.heap.size w W0) := by show Below w.heap.size w W0; rw [← hW0]; exact below_alloc _ _
  have HBX : Hid (∀ W, Below W0.heap.size W0 W → Bx W w.heap.size [.bool false, .slice none 0 0]) := fun W hW => hbx.below hbx.lt hW
  clear hW0 hbx
  go_enter Tryd.func44, Tryd.ntmps44
  go_wp2_with fail
  rw [HW0.out]
  refine (limbsOf_trim n _ hn).mono ?_
  rintro e w1 ⟨v, t, rfl, hv, ht, hvt, hlt, hb1⟩
  have HV := hidG hv
  have HB1 := hidG hb1
  have HT : Hid (isTrim t ∧ val t = n ∧ t.length ≤ 3) := ⟨ht, hvt, hlt⟩
  obtain ⟨pv, cv, hvv, _⟩ := hv
  subst hvv
  clear ht hvt hlt hb1
  go_wp2_with fail
  refine (makeInteger_any W0.heap.size false _ t _ HV.out).mono ?_
  rintro e w2 ⟨v', rfl, hcut, hb2⟩
  have HV2 : Hid (IsL W0.heap.size w2 v' t) := by
    have h := hcut _ _ (HV.out.below hb2)
    rw [trimL_of_trim t HT.out.1] at h
    exact h
  have HB2 := hidG (HB1.out.trans (hb2.mono HB1.out.size))
  have e1 : negOf false (trimL t) = false := by unfold negOf; rfl
  rw [e1]
  have hb := HBX.out w2 HB2.out
  have k0 := hb.cell 0
  have k1 := hb.cell 1
  simp only [List.getElem?_cons_zero, List.getElem?_cons_succ] at k0 k1
  have r0 := hb.frozen 0
  have r1 := hb.frozen 1
  obtain ⟨p2, c2, hv2, _⟩ := HV2.out
  subst hv2
  clear hcut hb2 hb e1
  go_wp2
  have hbw := HBX.out w2 HB2.out
  have hno := noInt_of hbw (by simp)
  have hLL := (HV2.out.mono HB0.out.size).put2 hno (.bool false) (.slice p2 t.length c2)
  have hZ : Bx ((w2.setCell ⟨w.heap.size, 0, none⟩ (.bool false)).setCell ⟨w.heap.size, 1, none⟩ (.slice p2 t.length c2)) w.heap.size [.bool false, .slice p2 t.length c2] := (hbw.set 0 _).set 1 _
  have hE := set2 (HB0.out.trans (HB2.out.mono HB0.out.size)) w.heap.size (Nat.le_refl _) (.bool false) (.slice p2 t.length c2)
  generalize (w2.setCell ⟨w.heap.size, 0, none⟩ (.bool false)).setCell ⟨w.heap.size, 1, none⟩ (.slice p2 t.length c2) = WE at *
  have m0 := hZ.cell 0
  have m1 := hZ.cell 1
  simp only [List.getElem?_cons_zero, List.getElem?_cons_succ] at m0 m1
  refine bodyPost_ret (v := .agg #[.bool false, .slice p2 t.length c2]) ?_ rfl ⟨_, rfl, ⟨false, _, t, by unfold negOf; rfl, hLL, HT.out.1, by rw [HT.out.2.1]; rfl, HT.out.2.2⟩, hE⟩
  simp [results, Tryd.results44, go_sem, m0, m1]
/-- The program's rational number, by value: x over y. -/
def IsQR (B : Nat) (w : World) (z : Value) (x y : Int) (n : Nat) : Prop := ∃ s1 v1 s2 v2, z = .agg #[.bool s1, v1, .bool s2, v2] ∧ IsI B w (.agg #[.bool s1, v1]) x n ∧ IsI B w (.agg #[.bool s2, v2]) y n
theorem IsQR.below {B : Nat} {w w' : World} {z : Value} {x y : Int} {n : Nat} (h : IsQR B w z x y n) (hb : Below w.heap.size w w') : IsQR B w' z x y n := by
  obtain ⟨s1, v1, s2, v2, e, h1, h2⟩ := h
  exact ⟨s1, v1, s2, v2, e, h1.below hb, h2.below hb⟩
theorem IsI.parts {B : Nat} {w : World} {s : Bool} {v : Value} {x : Int} {n : Nat} (h : IsI B w (.agg #[.bool s, v]) x n) : ∃ neg t, s = negOf neg t ∧ IsL B w v t ∧ isTrim t ∧ sg neg (val t) = x ∧ t.length ≤ n := by
  obtain ⟨neg, v', t, e, h1, h2, h3, h4⟩ := h
  simp only [Value.agg.injEq, Array.mk.injEq, List.cons.injEq, Value.bool.injEq, and_true] at e
  obtain ⟨rfl, rfl⟩ := e
  exact ⟨neg, t, rfl, h1, h2, h3, h4⟩
theorem ordI_zero (x y : Int) : (ordI x y == 0) = decide (x = y) := by
  unfold ordI
  split
  · rename_i h; have : x ≠ y := by omega
    simp [this]
  · split
    · rename_i h; have : x ≠ y := by omega
      simp [this]
    · rename_i h1 h2; have : x = y := by omega
      simp [this]
set_option maxRecDepth 100000 in
set_option maxHeartbeats 1000000 in
theorem isWhole_any (B : Nat) (z : Value) (x y : Int) (n : Nat) (w : World) (hBw : B ≤ w.heap.size) (h : IsQR B w z x y n) (hSP : SP w) :
    Calls Tryd.prog 45 #[z] w fun e w' => e = .returned (.bool (decide (y = 1))) ∧ Below w.heap.size w w' := by
  obtain ⟨s1, v1, s2, v2, rfl, h1, h2⟩ := h
  obtain ⟨n1, t1, rfl, hL1, _, _, _⟩ := h1.parts
  obtain ⟨n2, t2, rfl, hL2, tr2, e2, _⟩ := h2.parts
  have HL2 := hidG hL2
  have HSP := hidG hSP
  have HBW := hidG hBw
  have HT : Hid (isTrim t2 ∧ sg n2 (val t2) = y) := ⟨tr2, e2⟩
  obtain ⟨p1, c1, rfl, _, _, o1, _⟩ := hL1
  obtain ⟨p2, c2, rfl, _, _, o2, _⟩ := hL2
  have HO : Hid (okL t2) := o2
  clear hSP hBw tr2 e2 h1 h2 o1 o2
  obtain ⟨W0, hW0⟩ : ∃ W0, w.alloc (.cells #[.bool (negOf n1 t1), .slice p1 t1.length c1, .bool (negOf n2 t2), .slice p2 t2.length c2] 35) = W0 := ⟨_, rfl⟩
  have HW0 := hidG hW0
  have hbx : Bx W0 w.heap.size [.bool (negOf n1 t1), .slice p1 t1.length c1, .bool (negOf n2 t2), .slice p2 t2.length c2] := by rw [← hW0]; exact bx_new w _ _
  have HB0 : Hid (Below w.heap.size w W0) := by show Below w.heap.size w W0; rw [← hW0]; exact below_alloc _ _
  have HBX : Hid (∀ W, Below W0.heap.size W0 W → Bx W w.heap.size [.bool (negOf n1 t1), .slice p1 t1.length c1, .bool (negOf n2 t2), .slice p2 t2.length c2]) := fun W hW => hbx.below hbx.lt hW
  clear hW0 hbx
  go_enter Tryd.func45, Tryd.ntmps45
  go_upto_region 1 with fail
  rw [HW0.out]
  have hb0 := HBX.out W0 (Below.refl _ _)
  have k0 := hb0.cell 0
  have k1 := hb0.cell 1
  have k2 := hb0.cell 2
  have k3 := hb0.cell 3
  simp only [List.getElem?_cons_zero, List.getElem?_cons_succ] at k0 k1 k2 k3
  clear hb0
  go_region_with (first
    | (go_at_call 44
       refine (wholeNumber_any 1 _ (by decide)).mono ?_
       rintro e w1 ⟨z, rfl, hz, hb1⟩
       have HB1 : Hid (Below W0.heap.size W0 w1) := (Below.refl _ W0).drew.trans hb1
       obtain ⟨nz, vz, tz, rfl, hzL, hzt, hzv, _⟩ := hz
       have HZ : Hid (IsL W0.heap.size w1 vz tz ∧ isTrim tz ∧ sg nz (val tz) = 1) := ⟨hzL, hzt, hzv⟩
       obtain ⟨pz, cz, rfl, _, _, oz, _⟩ := hzL
       have HOZ : Hid (okL tz) := oz
       have hb0 := HBX.out w1 HB1.out
       have j2 := hb0.cell 2
       have j3 := hb0.cell 3
       simp only [List.getElem?_cons_zero, List.getElem?_cons_succ] at j2 j3
       clear hzt hzv hb1 oz hb0)
    | (go_at_call 65
       refine (compare_any B _ _ _ _ t2 tz _ (HL2.out.below (HB0.out.trans (HB1.out.mono HB0.out.size))) (HZ.out.1.mono (by have := HBW.out; have := HB0.out.size; omega)) (HSP.out.below (HB0.out.trans (HB1.out.mono HB0.out.size)))).mono ?_
       rintro e w2 ⟨rfl, hb2⟩
       have HB2 : Hid (Below w.heap.size w w2) := HB0.out.trans ((HB1.out.trans (hb2.mono HB1.out.size)).mono HB0.out.size)
       rw [cmpI_ord n2 nz t2 tz HO.out HOZ.out HT.out.1 HZ.out.2.1, HT.out.2, HZ.out.2.2]
       clear hb2))
  all_goals
    try simp only [List.getElem_toArray, List.getElem_cons_succ, List.getElem_cons_zero, Act.put, List.setIfInBounds_toArray, List.set_cons_succ, List.set_cons_zero]
    go_wp2
    go_ret
    exact ⟨ret_bool (ordI_zero y 1), HB2.out⟩
end Go.Proofs.YtpjnglcojamfmaaDoor
