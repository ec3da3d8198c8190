import Derived.Test.YtlphfokcojahlaaDoorRatG
namespace Go.Proofs.YtlphfokcojahlaaDoor
open Go.ChangeShapes Go.WideShapes Go.ChangeAt Go.RowKit
set_option maxRecDepth 100000 in
set_option maxHeartbeats 1000000 in
theorem floor_any (B : Nat) (z : Value) (x y : Int) (n : Nat) (w : World) (hBw : B ≤ w.heap.size) (h : IsQR B w z x y n) (hn : n ≤ 80000) (hy : y ≠ 0) (hSP : SP w) :
    Calls Tryd.prog 64 #[z] w fun e w' => ∃ r q t, e = .returned r ∧ IsI B w' r q (n + 2) ∧ IsDiv x y q t ∧ Below w.heap.size w w' := by
  obtain ⟨s1, p1, l1, c1, s2, p2, l2, c2, rfl, h1, h2⟩ := h.shape
  have HSP := hidG hSP
  have HBW := hidG hBw
  have H1 := hidG h1
  have H2 := hidG h2
  clear h hSP hBw h1 h2
  obtain ⟨W0, hW0⟩ : ∃ W0, (w.alloc (.cells #[.bool s1, .slice p1 l1 c1, .bool s2, .slice p2 l2 c2] 57)).alloc (.cells #[.bool false, .slice none 0 0] 39) = W0 := ⟨_, rfl⟩
  have HW0 := hidG hW0
  have HB0 : Hid (Below w.heap.size w W0) := by
    show Below w.heap.size w W0
    rw [← hW0]; exact below_al (below_alloc _ _) _
  have hx1 : Bx W0 w.heap.size [.bool s1, .slice p1 l1 c1, .bool s2, .slice p2 l2 c2] := by rw [← hW0]; exact (bx_new w _ _).alloc _
  have hx2 : Bx W0 (w.heap.size + 1) [.bool false, .slice none 0 0] := by
    rw [← hW0]
    have h := bx_new (w.alloc (.cells #[.bool s1, .slice p1 l1 c1, .bool s2, .slice p2 l2 c2] 57)) [.bool false, .slice none 0 0] 39
    rw [World.size_alloc] at h
    exact h
  have HX : Hid (∀ W, Below W0.heap.size W0 W → Bx W (w.heap.size + 1) [.bool false, .slice none 0 0]) := fun W hW => hx2.below hx2.lt hW
  clear hW0
  have k0 := hx1.cell 0
  have k1 := hx1.cell 1
  have k2 := hx1.cell 2
  have k3 := hx1.cell 3
  simp only [List.getElem?_cons_zero, List.getElem?_cons_succ] at k0 k1 k2 k3
  clear hx1 hx2
  go_enter Tryd.func64, Tryd.ntmps64
  go_upto_region 1 with fail
  rw [HW0.out]
  go_wp2_with fail
  refine (dividedBy_any B _ _ x y n n _ (by have := HBW.out; have := HB0.out.size; omega) (H1.out.below HB0.out) (H2.out.below HB0.out) hy (by omega) (by omega) (HSP.out.below HB0.out)).mono ?_
  rintro e w1 ⟨z1, z2, q, r, rfl, hz1, hz2, hdv, hb1⟩
  obtain ⟨s5, p5, l5, c5, rfl⟩ := hz1.shape
  obtain ⟨s6, p6, l6, c6, rfl⟩ := hz2.shape
  have HZ1 := hidG hz1
  have HDV := hidG hdv
  have HB1 := hidG hb1
  obtain ⟨W2, hW2⟩ : ∃ W2, (w1.alloc (.cells #[.bool s5, .slice p5 l5 c5] 39)).alloc (.cells #[.bool s6, .slice p6 l6 c6] 39) = W2 := ⟨_, rfl⟩
  have HW2 := hidG hW2
  have hB2 : Below w1.heap.size w1 W2 := by rw [← hW2]; exact below_al (below_alloc _ _) _
  have hq1 : Bx W2 w1.heap.size [.bool s5, .slice p5 l5 c5] := by rw [← hW2]; exact (bx_new w1 _ _).alloc _
  have HB02 : Hid (Below W0.heap.size W0 W2) := HB1.out.trans (hB2.mono HB1.out.size)
  have HZ2 : Hid (IsI B W2 (.agg #[.bool s5, .slice p5 l5 c5]) q (n + 2)) := HZ1.out.below hB2
  have q0 := hq1.cell 0
  have q1 := hq1.cell 1
  have hbw := HX.out W2 HB02.out
  have r0 := hbw.cell 0
  have r1 := hbw.cell 1
  simp only [List.getElem?_cons_zero, List.getElem?_cons_succ] at q0 q1 r0 r1
  have f0 := hbw.frozen 0
  have f1 := hbw.frozen 1
  clear hz1 hz2 hdv hb1 k0 k1 k2 k3 hW2 hB2 hq1 hbw
  go_upto_region 2 with fail
  rw [HW2.out]
  go_wp2
  have hbw := HX.out W2 HB02.out
  have hno : NoInt W2 (w.heap.size + 1) := noInt_of hbw (by simp)
  have hLL := HZ2.out.put2 hno (.bool s5) (.slice p5 l5 c5)
  have hZ : Bx ((W2.setCell ⟨w.heap.size + 1, 0, none⟩ (.bool s5)).setCell ⟨w.heap.size + 1, 1, none⟩ (.slice p5 l5 c5)) (w.heap.size + 1) [.bool s5, .slice p5 l5 c5] := (hbw.set 0 _).set 1 _
  have hE := set2 (HB0.out.trans (HB02.out.mono HB0.out.size)) (w.heap.size + 1) (Nat.le_succ _) (.bool s5) (.slice p5 l5 c5)
  generalize (W2.setCell ⟨w.heap.size + 1, 0, none⟩ (.bool s5)).setCell ⟨w.heap.size + 1, 1, none⟩ (.slice p5 l5 c5) = WE at *
  have m0 := hZ.cell 0
  have m1 := hZ.cell 1
  simp only [List.getElem?_cons_zero, List.getElem?_cons_succ] at m0 m1
  refine bodyPost_ret (v := .agg #[.bool s5, .slice p5 l5 c5]) ?_ rfl ⟨_, q, r, rfl, hLL, HDV.out, hE⟩
  simp [results, Tryd.results64, go_sem, m0, m1]
end Go.Proofs.YtlphfokcojahlaaDoor
