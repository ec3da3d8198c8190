import Derived.Test.YtlphfokcojahlaaDoorRatB
namespace Go.Proofs.YtlphfokcojahlaaDoor
open Go.ChangeShapes Go.WideShapes Go.ChangeAt Go.RowKit
/-- What form answers. -/
def FormOf (x y : Int) (z : Value) : Prop := ∃ u v b, z = .agg #[.string u, .bool b, .string v] ∧ IsText x u ∧ (if y = 1 then b = false ∧ v = ⟨#[]⟩ else b = true ∧ IsText y v)
theorem IsQR.shape {B : Nat} {w : World} {z : Value} {x y : Int} {n : Nat} (h : IsQR B w z x y n) : ∃ s1 p1 l1 c1 s2 p2 l2 c2, z = .agg #[.bool s1, .slice p1 l1 c1, .bool s2, .slice p2 l2 c2] ∧ IsI B w (.agg #[.bool s1, .slice p1 l1 c1]) x n ∧ IsI B w (.agg #[.bool s2, .slice p2 l2 c2]) y n := by
  obtain ⟨s1, v1, s2, v2, rfl, h1, h2⟩ := h
  obtain ⟨_, t1, _, ⟨p1, c1, rfl, _⟩, _⟩ := h1.parts
  obtain ⟨_, t2, _, ⟨p2, c2, rfl, _⟩, _⟩ := h2.parts
  exact ⟨s1, p1, _, c1, s2, p2, _, c2, rfl, h1, h2⟩
set_option maxRecDepth 100000 in
set_option maxHeartbeats 2000000 in
theorem form_any (B : Nat) (z : Value) (x y : Int) (n : Nat) (w : World) (hBw : B ≤ w.heap.size) (h : IsQR B w z x y n) (hn : n ≤ 600) (hSP : SP w) (hLT : LT w) :
    Calls Tryd.prog 92 #[z] w fun e w' => ∃ r, e = .returned r ∧ FormOf x y r ∧ Below w.heap.size w w' := by
  have HR := hidG h
  obtain ⟨s1, p1, l1, c1, s2, p2, l2, c2, rfl, h1, h2⟩ := h.shape
  have HSP := hidG hSP
  have HLT := hidG hLT
  have HBW := hidG hBw
  have H1 := hidG h1
  have H2 := hidG h2
  clear h hSP hLT hBw h1 h2
  obtain ⟨W0, hW0⟩ : ∃ W0, (w.alloc (.cells #[.bool s1, .slice p1 l1 c1, .bool s2, .slice p2 l2 c2] 57)).alloc (.cells #[.string ⟨#[]⟩, .bool false, .string ⟨#[]⟩] 91) = W0 := ⟨_, rfl⟩
  have HW0 := hidG hW0
  have HB0 : Hid (Below w.heap.size w W0) := by
    show Below w.heap.size w W0
    rw [← hW0]; exact below_al (below_alloc _ _) _
  have hx1 : Bx W0 w.heap.size [.bool s1, .slice p1 l1 c1, .bool s2, .slice p2 l2 c2] := by rw [← hW0]; exact (bx_new w _ _).alloc _
  have hx2 : Bx W0 (w.heap.size + 1) [.string ⟨#[]⟩, .bool false, .string ⟨#[]⟩] := by
    rw [← hW0]
    have h := bx_new (w.alloc (.cells #[.bool s1, .slice p1 l1 c1, .bool s2, .slice p2 l2 c2] 57)) [.string ⟨#[]⟩, .bool false, .string ⟨#[]⟩] 91
    rw [World.size_alloc] at h
    exact h
  have HX : Hid (∀ W, Below W0.heap.size W0 W → Bx W w.heap.size [.bool s1, .slice p1 l1 c1, .bool s2, .slice p2 l2 c2] ∧ Bx W (w.heap.size + 1) [.string ⟨#[]⟩, .bool false, .string ⟨#[]⟩]) := fun W hW => ⟨hx1.below hx1.lt hW, hx2.below hx2.lt hW⟩
  clear hW0
  have k0 := hx1.cell 0
  have k1 := hx1.cell 1
  have k2 := hx1.cell 2
  have k3 := hx1.cell 3
  simp only [List.getElem?_cons_zero, List.getElem?_cons_succ] at k0 k1 k2 k3
  clear hx1 hx2
  go_enter Tryd.func92, Tryd.ntmps92
  go_upto_region 1 with fail
  rw [HW0.out]
  go_wp2_with fail
  refine (isWhole_any B _ x y n _ (by have := HBW.out; have := HB0.out.size; omega) (HR.out.below HB0.out) (HSP.out.below HB0.out)).mono ?_
  rintro e w1 ⟨rfl, hb1⟩
  have HB1 := hidG hb1
  have hB1 := HB0.out.trans (hb1.mono HB0.out.size)
  have HBB := hidG hB1
  obtain ⟨hy1, hy2⟩ := HX.out w1 hb1
  clear k0 k1 k2 k3
  have k0 := hy1.cell 0
  have k1 := hy1.cell 1
  have k2 := hy1.cell 2
  have k3 := hy1.cell 3
  simp only [List.getElem?_cons_zero, List.getElem?_cons_succ] at k0 k1 k2 k3
  clear hb1 hB1 hy1 hy2
  by_cases hy : y = 1
  · have hd : decide (y = 1) = true := decide_eq_true hy
    have HY := hidG hy
    rw [hd]
    clear hd hy
    go_wp2_with fail
    refine (textI_any B _ x n _ (H1.out.below HBB.out) hn (HLT.out.below HBB.out)).mono ?_
    rintro e w2 ⟨u, rfl, hu, hb2⟩
    have HU := hidG hu
    have HB2 := hidG (HB1.out.trans (hb2.mono HB1.out.size))
    have hbw := (HX.out w2 HB2.out).2
    have r0 := hbw.cell 0
    have r1 := hbw.cell 1
    have r2 := hbw.cell 2
    simp only [List.getElem?_cons_zero, List.getElem?_cons_succ] at r0 r1 r2
    have f0 := hbw.frozen 0
    have f1 := hbw.frozen 1
    have f2 := hbw.frozen 2
    clear hu hb2 hbw
    go_wp2
    have hbw := (HX.out w2 HB2.out).2
    have hZ : Bx (((w2.setCell ⟨w.heap.size + 1, 0, none⟩ (.string u)).setCell ⟨w.heap.size + 1, 1, none⟩ (.bool false)).setCell ⟨w.heap.size + 1, 2, none⟩ (.string ⟨#[]⟩)) (w.heap.size + 1) [.string u, .bool false, .string ⟨#[]⟩] := ((hbw.set 0 _).set 1 _).set 2 _
    have hE := belowSet3 (HB0.out.trans (HB2.out.mono HB0.out.size)) (w.heap.size + 1) (Nat.le_succ _) (.string u) (.bool false) (.string ⟨#[]⟩)
    generalize ((w2.setCell ⟨w.heap.size + 1, 0, none⟩ (.string u)).setCell ⟨w.heap.size + 1, 1, none⟩ (.bool false)).setCell ⟨w.heap.size + 1, 2, none⟩ (.string ⟨#[]⟩) = WE at *
    have m0 := hZ.cell 0
    have m1 := hZ.cell 1
    have m2 := hZ.cell 2
    simp only [List.getElem?_cons_zero, List.getElem?_cons_succ] at m0 m1 m2
    refine bodyPost_ret (v := .agg #[.string u, .bool false, .string ⟨#[]⟩]) ?_ rfl ⟨_, rfl, ⟨u, _, _, rfl, HU.out, by rw [if_pos HY.out]; exact ⟨rfl, rfl⟩⟩, hE⟩
    simp [results, Tryd.results92, go_sem, m0, m1, m2]
  · have hd : decide (y = 1) = false := decide_eq_false hy
    have HY := hidG hy
    rw [hd]
    clear hd hy
    go_wp2_with fail
    go_region_with (first
      | (go_at_call_of 39 (Value.slice p1 l1 c1)
         refine (textI_any B _ x n _ (H1.out.below (HBB.out.trans ((Below.refl _ w1).drew.mono HBB.out.size))) hn (HLT.out.below (HBB.out.trans ((Below.refl _ w1).drew.mono HBB.out.size)))).mono ?_
         rintro e w2 ⟨u, rfl, hu, hb2⟩
         have HU := hidG hu
         have HB2 : Hid (Below w1.heap.size w1 w2) := (Below.refl _ w1).drew.trans hb2
         have hbx := (HX.out w2 (HB1.out.trans (HB2.out.mono HB1.out.size))).1
         have j2 := hbx.cell 2
         have j3 := hbx.cell 3
         simp only [List.getElem?_cons_zero, List.getElem?_cons_succ] at j2 j3
         clear hu hb2 hbx)
      | (go_at_call_of 39 (Value.slice p2 l2 c2)
         refine (textI_any B _ y n _ (H2.out.below (HBB.out.trans (HB2.out.mono HBB.out.size))) hn (HLT.out.below (HBB.out.trans (HB2.out.mono HBB.out.size)))).mono ?_
         rintro e w3 ⟨v, rfl, hv, hb3⟩
         have HV := hidG hv
         have HB3 : Hid (Below W0.heap.size W0 w3) := HB1.out.trans ((HB2.out.trans (hb3.mono HB2.out.size)).mono HB1.out.size)
         have hbw := (HX.out w3 HB3.out).2
         have r0 := hbw.cell 0
         have r1 := hbw.cell 1
         have r2 := hbw.cell 2
         simp only [List.getElem?_cons_zero, List.getElem?_cons_succ] at r0 r1 r2
         have f0 := hbw.frozen 0
         have f1 := hbw.frozen 1
         have f2 := hbw.frozen 2
         clear hv hb3 hbw))
    all_goals
      try simp only [List.getElem_toArray, List.getElem_cons_succ, List.getElem_cons_zero, Act.put, List.setIfInBounds_toArray, List.set_cons_succ, List.set_cons_zero]
      go_wp2
      have hbw := (HX.out w3 HB3.out).2
      have hZ : Bx (((w3.setCell ⟨w.heap.size + 1, 0, none⟩ (.string u)).setCell ⟨w.heap.size + 1, 1, none⟩ (.bool true)).setCell ⟨w.heap.size + 1, 2, none⟩ (.string v)) (w.heap.size + 1) [.string u, .bool true, .string v] := ((hbw.set 0 _).set 1 _).set 2 _
      have hE := belowSet3 (HB0.out.trans (HB3.out.mono HB0.out.size)) (w.heap.size + 1) (Nat.le_succ _) (.string u) (.bool true) (.string v)
      generalize ((w3.setCell ⟨w.heap.size + 1, 0, none⟩ (.string u)).setCell ⟨w.heap.size + 1, 1, none⟩ (.bool true)).setCell ⟨w.heap.size + 1, 2, none⟩ (.string v) = WE at *
      have m0 := hZ.cell 0
      have m1 := hZ.cell 1
      have m2 := hZ.cell 2
      simp only [List.getElem?_cons_zero, List.getElem?_cons_succ] at m0 m1 m2
      refine bodyPost_ret (v := .agg #[.string u, .bool true, .string v]) ?_ rfl ⟨_, rfl, ⟨u, _, _, rfl, HU.out, by rw [if_neg HY.out]; exact ⟨rfl, HV.out⟩⟩, hE⟩
      simp [results, Tryd.results92, go_sem, m0, m1, m2]
end Go.Proofs.YtlphfokcojahlaaDoor
