import Derived.Test.YtlphfokcojahlaaDoorRatD
namespace Go.Proofs.YtlphfokcojahlaaDoor
open Go.ChangeShapes Go.WideShapes Go.ChangeAt Go.RowKit
set_option maxRecDepth 100000 in
set_option maxHeartbeats 1000000 in
theorem wholeRational_any (s1 : Bool) (p1 : Option Addr) (l1 c1 : Nat) (w : World) :
    Calls Tryd.prog 91 #[.agg #[.bool s1, .slice p1 l1 c1]] w fun e w' => ∃ s2 p2 l2 c2, e = .returned (.agg #[.bool s1, .slice p1 l1 c1, .bool s2, .slice p2 l2 c2]) ∧ IsI w.heap.size w' (.agg #[.bool s2, .slice p2 l2 c2]) 1 3 ∧ Below w.heap.size w w' := by
  obtain ⟨W0, hW0⟩ : ∃ W0, (w.alloc (.cells #[.bool s1, .slice p1 l1 c1] 39)).alloc (.cells #[.bool false, .slice none 0 0, .bool false, .slice none 0 0] 57) = W0 := ⟨_, rfl⟩
  have HW0 := hidG hW0
  have HB0 : Hid (Below w.heap.size w W0) := by
    show Below w.heap.size w W0
    rw [← hW0]; exact below_al (below_alloc _ _) _
  have hx1 : Bx W0 w.heap.size [.bool s1, .slice p1 l1 c1] := by rw [← hW0]; exact (bx_new w _ _).alloc _
  have hx2 : Bx W0 (w.heap.size + 1) [.bool false, .slice none 0 0, .bool false, .slice none 0 0] := by
    rw [← hW0]
    have h := bx_new (w.alloc (.cells #[.bool s1, .slice p1 l1 c1] 39)) [.bool false, .slice none 0 0, .bool false, .slice none 0 0] 57
    rw [World.size_alloc] at h
    exact h
  have HX : Hid (∀ W, Below W0.heap.size W0 W → Bx W w.heap.size [.bool s1, .slice p1 l1 c1] ∧ Bx W (w.heap.size + 1) [.bool false, .slice none 0 0, .bool false, .slice none 0 0]) := fun W hW => ⟨hx1.below hx1.lt hW, hx2.below hx2.lt hW⟩
  clear hW0
  have k0 := hx1.cell 0
  have k1 := hx1.cell 1
  simp only [List.getElem?_cons_zero, List.getElem?_cons_succ] at k0 k1
  clear hx1 hx2
  go_enter Tryd.func91, Tryd.ntmps91
  go_upto_region 1 with fail
  rw [HW0.out]
  go_region_with (first
    | (go_at_call 120
       refine (wholeNumber_any 1 _ (by decide)).mono ?_
       rintro e w1 ⟨z, rfl, hz, hb1⟩
       have HB1 : Hid (Below W0.heap.size W0 w1) := (Below.refl _ W0).drew.trans hb1
       obtain ⟨s2, p2, l2, c2, rfl⟩ := hz.shape
       have HZ : Hid (IsI W0.heap.size w1 (.agg #[.bool s2, .slice p2 l2 c2]) 1 3) := hz
       obtain ⟨hy1, hy2⟩ := HX.out w1 HB1.out
       have j0 := hy1.cell 0
       have j1 := hy1.cell 1
       have r0 := hy2.cell 0
       have r1 := hy2.cell 1
       have r2 := hy2.cell 2
       have r3 := hy2.cell 3
       simp only [List.getElem?_cons_zero, List.getElem?_cons_succ] at j0 j1 r0 r1 r2 r3
       have f0 := hy2.frozen 0
       have f1 := hy2.frozen 1
       have f2 := hy2.frozen 2
       have f3 := hy2.frozen 3
       clear hz hb1 hy1 hy2))
  all_goals
    try simp only [List.getElem_toArray, List.getElem_cons_succ, List.getElem_cons_zero, Act.put, List.setIfInBounds_toArray, List.set_cons_succ, List.set_cons_zero]
    go_wp2
    have hbw := (HX.out w1 HB1.out).2
    have hnR : NoInt w1 (w.heap.size + 1) := noInt_of hbw (by simp)
    have hD9 := (HZ.out.mono (B' := w.heap.size) (n' := 3) HB0.out.size (Nat.le_refl _)).put4 hnR (.bool s1) (.slice p1 l1 c1) (.bool s2) (.slice p2 l2 c2)
    have hB9 := set4 (HB0.out.trans (HB1.out.mono HB0.out.size)) (w.heap.size + 1) (Nat.le_succ _) (.bool s1) (.slice p1 l1 c1) (.bool s2) (.slice p2 l2 c2)
    have hZ : Bx ((((w1.setCell ⟨w.heap.size + 1, 0, none⟩ (.bool s1)).setCell ⟨w.heap.size + 1, 1, none⟩ (.slice p1 l1 c1)).setCell ⟨w.heap.size + 1, 2, none⟩ (.bool s2)).setCell ⟨w.heap.size + 1, 3, none⟩ (.slice p2 l2 c2)) (w.heap.size + 1) [.bool s1, .slice p1 l1 c1, .bool s2, .slice p2 l2 c2] := (((hbw.set 0 _).set 1 _).set 2 _).set 3 _
    generalize (((w1.setCell ⟨w.heap.size + 1, 0, none⟩ (.bool s1)).setCell ⟨w.heap.size + 1, 1, none⟩ (.slice p1 l1 c1)).setCell ⟨w.heap.size + 1, 2, none⟩ (.bool s2)).setCell ⟨w.heap.size + 1, 3, none⟩ (.slice p2 l2 c2) = W9 at *
    have m0 := hZ.cell 0
    have m1 := hZ.cell 1
    have m2 := hZ.cell 2
    have m3 := hZ.cell 3
    simp only [List.getElem?_cons_zero, List.getElem?_cons_succ] at m0 m1 m2 m3
    refine bodyPost_ret (v := .agg #[.bool s1, .slice p1 l1 c1, .bool s2, .slice p2 l2 c2]) ?_ rfl ⟨s2, p2, l2, c2, rfl, hD9, hB9⟩
    simp [results, Tryd.results91, go_sem, m0, m1, m2, m3]
end Go.Proofs.YtlphfokcojahlaaDoor
