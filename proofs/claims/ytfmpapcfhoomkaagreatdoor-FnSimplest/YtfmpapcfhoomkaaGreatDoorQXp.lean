import Derived.Test.YtfmpapcfhoomkaaGreatDoorQIp
import Derived.Test.YtfmpapcfhoomkaaGreatDoorQQp
namespace Go.Proofs.YtfmpapcfhoomkaaGreatDoor
open Go.ChangeShapes Go.WideShapes Go.ChangeAt Go.RowKit
set_option maxRecDepth 100000 in
set_option maxHeartbeats 8000000 in
theorem l2Add_any (B : Nat) (za zd : Value) (x1 y1 x2 y2 : Int) (w : World) (hBw : B ≤ w.heap.size) (ha : IsQN B w za x1 y1) (hd : IsQN B w zd x2 y2) (hlt : x1.natAbs < lb 280 ∧ y1.natAbs < lb 280 ∧ x2.natAbs < lb 280 ∧ y2.natAbs < lb 280) (hden : y1 * y2 ≠ 0) :
 Calls Tryz.prog 76 #[za, zd] w fun e w' => ∃ z p q, e = .returned z ∧ IsQN 0 w' z p q ∧ IsLow (x1 * y2 + x2 * y1) (y1 * y2) p q ∧ Up w w' := by
 have HQA := Hd ha; have HQD := Hd hd; have HL := Hd hlt; have HD := Hd hden; obtain ⟨a0, an, aa, al, ac, b0, bn, ba, bl, bc, rfl, h1, h2⟩ := ha; obtain ⟨d0, dn, da, dl, dc, e0, en, ea, el, ec, rfl, h3, h4⟩ := hd; have H1 := Hd h1; have H2 := Hd h2; have H3 := Hd h3; have H4 := Hd h4; have HBW := Hd hBw; clear h1 h2 h3 h4 hBw hlt hden; have HSUM : Hid ((x1 * y2 + x2 * y1).natAbs < lb 561) := add_lt (mul_lt HL.o.1 HL.o.2.2.2) (mul_lt HL.o.2.2.1 HL.o.2.1); obtain ⟨W0, hW0⟩ := exW (((w.alloc (.cells #[.int .i64 a0, .bool an, .slice aa al ac, .int .i64 b0, .bool bn, .slice ba bl bc] 70)).alloc (.cells #[.int .i64 d0, .bool dn, .slice da dl dc, .int .i64 e0, .bool en, .slice ea el ec] 70)).alloc (.cells #[.int .i64 0, .bool false, .slice none 0 0, .int .i64 0, .bool false, .slice none 0 0] 70)); have HW0 := Hd hW0; have HB0 : Hid (Up w W0) := by unfold Hid; rw [← hW0]; exact below_al (below_al (below_alloc _ _) _) _
 have hx0 : BxT w.heap.size W0 a0 an aa al ac b0 bn ba bl bc d0 dn da dl dc e0 en ea el ec := by
  refine ⟨?_, ?_, ?_⟩
  ·rw [← hW0]; exact ((bx_new w _ _).alloc _).alloc _
  ·rw [← hW0]; have h := bx_new (w.alloc (.cells #[.int .i64 a0, .bool an, .slice aa al ac, .int .i64 b0, .bool bn, .slice ba bl bc] 70)) [.int .i64 d0, .bool dn, .slice da dl dc, .int .i64 e0, .bool en, .slice ea el ec] 70; rw [World.size_alloc] at h; exact h.alloc _
  rw [← hW0]; have h := bx_new ((w.alloc (.cells #[.int .i64 a0, .bool an, .slice aa al ac, .int .i64 b0, .bool bn, .slice ba bl bc] 70)).alloc (.cells #[.int .i64 d0, .bool dn, .slice da dl dc, .int .i64 e0, .bool en, .slice ea el ec] 70)) [.int .i64 0, .bool false, .slice none 0 0, .int .i64 0, .bool false, .slice none 0 0] 70; rw [World.size_alloc, World.size_alloc] at h; exact h
 have HX : Hid (∀ W, Up W0 W → BxT w.heap.size W a0 an aa al ac b0 bn ba bl bc d0 dn da dl dc e0 en ea el ec) := fun W hW => hx0.below hx0.r.lt hW; have T1 : Hid (∀ W, Up W0 W → Calls Tryz.prog 49 #[.agg #[.int .i64 a0, .bool an, .slice aa al ac], .agg #[.int .i64 e0, .bool en, .slice ea el ec]] W (fun e w' => ∃ z, e = .returned z ∧ NumZ 0 w' z (x1 * y2) 560 ∧ Up W w')) := fun W hW => by
  refine (l1MulN_any B _ _ _ _ 1000 1000 W (by have := HBW.o; have := HB0.o.size; have := hW.size; omega) ((H1.o.below HB0.o).below hW) ((H4.o.below HB0.o).below hW) (by omega) (by omega)).mono ?_; rintro e w' ⟨z, rfl, hz, hb⟩; exact ⟨z, rfl, numZ_lt hz (mul_lt HL.o.1 HL.o.2.2.2), hb⟩
 have T2 : Hid (∀ W, Up W0 W → Calls Tryz.prog 49 #[.agg #[.int .i64 d0, .bool dn, .slice da dl dc], .agg #[.int .i64 b0, .bool bn, .slice ba bl bc]] W (fun e w' => ∃ z, e = .returned z ∧ NumZ 0 w' z (x2 * y1) 560 ∧ Up W w')) := fun W hW => by
  refine (l1MulN_any B _ _ _ _ 1000 1000 W (by have := HBW.o; have := HB0.o.size; have := hW.size; omega) ((H3.o.below HB0.o).below hW) ((H2.o.below HB0.o).below hW) (by omega) (by omega)).mono ?_; rintro e w' ⟨z, rfl, hz, hb⟩; exact ⟨z, rfl, numZ_lt hz (mul_lt HL.o.2.2.1 HL.o.2.1), hb⟩
 have T3 : Hid (∀ W, Up W0 W → Calls Tryz.prog 49 #[.agg #[.int .i64 b0, .bool bn, .slice ba bl bc], .agg #[.int .i64 e0, .bool en, .slice ea el ec]] W (fun e w' => ∃ z, e = .returned z ∧ NumZ 0 w' z (y1 * y2) 560 ∧ Up W w')) := fun W hW => by
  refine (l1MulN_any B _ _ _ _ 1000 1000 W (by have := HBW.o; have := HB0.o.size; have := hW.size; omega) ((H2.o.below HB0.o).below hW) ((H4.o.below HB0.o).below hW) (by omega) (by omega)).mono ?_; rintro e w' ⟨z, rfl, hz, hb⟩; exact ⟨z, rfl, numZ_lt hz (mul_lt HL.o.2.1 HL.o.2.2.2), hb⟩
 have TW : Hid (∀ W, Up W0 W → Calls Tryz.prog 44 #[.agg #[.int .i64 a0, .bool an, .slice aa al ac], .agg #[.int .i64 d0, .bool dn, .slice da dl dc]] W (fun e w' => ∃ z, e = .returned z ∧ NumZ 0 w' z (x1 + x2) 561 ∧ Up W w')) := fun W hW => by
  refine (l1AddN_any B _ _ _ _ 1000 1000 W (by have := HBW.o; have := HB0.o.size; have := hW.size; omega) ((H1.o.below HB0.o).below hW) ((H3.o.below HB0.o).below hW) (by omega) (by omega)).mono ?_; rintro e w' ⟨z, rfl, hz, hb⟩; exact ⟨z, rfl, numZ_lt hz (add_lt (lb_le 280 560 (by decide) HL.o.1) (lb_le 280 560 (by decide) HL.o.2.2.1)), hb⟩
 obtain ⟨k0, k1, k2, k3, k4, k5⟩ := hx0.a.c6; obtain ⟨j0, j1, j2, j3, j4, j5⟩ := hx0.b.c6; clear hW0 hx0
 go_enter Tryz.func76, Tryz.ntmps76
 go_upto_region 1 with fail
 rw [HW0.o]
 go_wp2_with fail
 refine (l2Whole_any B _ x1 y1 W0 (by have := HBW.o; have := HB0.o.size; omega) (HQA.o.below HB0.o)).mono ?_; rintro e w1 ⟨rfl, hb1⟩; have HQ1 := Hd hb1; have hx := HX.o w1 hb1; clear hb1 k0 k1 k2 k3 k4 k5 j0 j1 j2 j3 j4 j5; obtain ⟨k0, k1, k2, k3, k4, k5⟩ := hx.a.c6; obtain ⟨j0, j1, j2, j3, j4, j5⟩ := hx.b.c6; clear hx
 by_cases hy1 : y1 = 1
 ·have z : decide (y1 = 1) = true := decide_eq_true hy1; have HY1 := Hd hy1; rw [z]; clear z hy1
  go_wp2_with fail
  refine (l2Whole_any B _ x2 y2 w1 (by have := HBW.o; have := HB0.o.size; have := HQ1.o.size; omega) ((HQD.o.below HB0.o).below HQ1.o)).mono ?_; rintro e w2 ⟨rfl, hb2⟩; have HQ2 := Hd (HQ1.o.trans (hb2.mono HQ1.o.size)); have hx := HX.o w2 HQ2.o; clear hb2 k0 k1 k2 k3 k4 k5 j0 j1 j2 j3 j4 j5; obtain ⟨k0, k1, k2, k3, k4, k5⟩ := hx.a.c6; obtain ⟨j0, j1, j2, j3, j4, j5⟩ := hx.b.c6; clear hx
  by_cases hy2 : y2 = 1
  ·have z : decide (y2 = 1) = true := decide_eq_true hy2; have HLO : Hid (IsLow (x1 * y2 + x2 * y1) (y1 * y2) (x1 + x2) y1) := by
    unfold Hid
    have h := low_one (x1 + x2) _ _ HY1.o hy2; rw [show x1 * y2 + x2 * y1 = x1 + x2 by rw [HY1.o, hy2, Int.mul_one, Int.mul_one]]; exact h
   rw [z]; clear z hy2
   go_wp2_with fail
   go_region_held3 (fun W => W.cell? ⟨w.heap.size, 0, none⟩ = some (.int .i64 a0) ∧ W.cell? ⟨w.heap.size, 1, none⟩ = some (.bool an) ∧ W.cell? ⟨w.heap.size, 2, none⟩ = some (.slice aa al ac) ∧ W.cell? ⟨w.heap.size, 3, none⟩ = some (.int .i64 b0) ∧ W.cell? ⟨w.heap.size, 4, none⟩ = some (.bool bn) ∧ W.cell? ⟨w.heap.size, 5, none⟩ = some (.slice ba bl bc) ∧ W.cell? ⟨w.heap.size + 1, 0, none⟩ = some (.int .i64 d0) ∧ W.cell? ⟨w.heap.size + 1, 1, none⟩ = some (.bool dn) ∧ W.cell? ⟨w.heap.size + 1, 2, none⟩ = some (.slice da dl dc) ∧ W.cell? ⟨w.heap.size + 1, 3, none⟩ = some (.int .i64 e0) ∧ W.cell? ⟨w.heap.size + 1, 4, none⟩ = some (.bool en) ∧ W.cell? ⟨w.heap.size + 1, 5, none⟩ = some (.slice ea el ec)) (first
    | with_reducible assumption | with_reducible exact held_put6 (by with_reducible assumption) (w.heap.size + 1 + 1) (by omega) (by omega) _ _ _ _ _ _ | go_keep) (first
    | (go_at_call 44
       refine (TW.o _ ?_).mono ?_
       ·exact HQ2.o.drew
       rintro e wm ⟨u, rfl, hu, hb⟩; obtain ⟨g0, gn, ga, gl, gc, rfl⟩ := hu.isN.shape; have HG := Hd (numZ_le hu (n := 1000) (by omega)); have HTM : Hid (Up W0 wm) := HQ2.o.drew.trans (hb.mono HQ2.o.size); have hxa := HX.o wm HTM.o; have hSm := hxa.held; obtain ⟨r0, r1, r2, r3, r4, r5⟩ := hxa.r.c6; obtain ⟨f0, f1, f2, f3, f4, f5⟩ := hxa.r.f6; clear hu hb hxa))
   all_goals
    try simp only [List.getElem_toArray, List.getElem_cons_succ, List.getElem_cons_zero, Act.put, List.setIfInBounds_toArray, List.set_cons_succ, List.set_cons_zero]
    go_wp2
    have hbw := (HX.o wm HTM.o).r; have hnR : NoInt wm (w.heap.size + 1 + 1) := noInt_of hbw (by simp); have hk := keeps6 wm (w.heap.size + 1 + 1) (.int .i64 g0) (.bool gn) (.slice ga gl gc) (.int .i64 b0) (.bool bn) (.slice ba bl bc); have hP9 := (HG.o).keeps hnR hnR hk; have hQ9 := (((H2.o.below HB0.o).below HTM.o).mono (Nat.zero_le _)).keeps hnR hnR hk; have hB9 := set6 (HB0.o.trans (HTM.o.mono HB0.o.size)) (w.heap.size + 1 + 1) (by omega) (.int .i64 g0) (.bool gn) (.slice ga gl gc) (.int .i64 b0) (.bool bn) (.slice ba bl bc); have hZ := hbw.put6 (.int .i64 g0) (.bool gn) (.slice ga gl gc) (.int .i64 b0) (.bool bn) (.slice ba bl bc); have hWW : ((((((wm.setCell ⟨w.heap.size + 1 + 1, 0, none⟩ (.int .i64 g0)).setCell ⟨w.heap.size + 1 + 1, 1, none⟩ (.bool gn)).setCell ⟨w.heap.size + 1 + 1, 2, none⟩ (.slice ga gl gc)).setCell ⟨w.heap.size + 1 + 1, 3, none⟩ (.int .i64 b0)).setCell ⟨w.heap.size + 1 + 1, 4, none⟩ (.bool bn)).setCell ⟨w.heap.size + 1 + 1, 5, none⟩ (.slice ba bl bc)) = W6 wm (w.heap.size + 1 + 1) (.int .i64 g0) (.bool gn) (.slice ga gl gc) (.int .i64 b0) (.bool bn) (.slice ba bl bc) := rfl; rw [hWW]; generalize W6 wm (w.heap.size + 1 + 1) (.int .i64 g0) (.bool gn) (.slice ga gl gc) (.int .i64 b0) (.bool bn) (.slice ba bl bc) = W9 at *; obtain ⟨o0, o1, o2, o3, o4, o5⟩ := hZ.c6; refine bodyPost_ret (v := .agg #[.int .i64 g0, .bool gn, .slice ga gl gc, .int .i64 b0, .bool bn, .slice ba bl bc]) ?_ rfl ⟨_, _, _, rfl, ⟨g0, gn, ga, gl, gc, b0, bn, ba, bl, bc, rfl, hP9, hQ9⟩, HLO.o, hB9⟩; simp [results, Tryz.results76, go_sem, o0, o1, o2, o3, o4, o5]
  have z : decide (y2 = 1) = false := decide_eq_false hy2; rw [z]; clear z hy2
  go_wp2_with fail
  go_region_held3 (fun W => W.cell? ⟨w.heap.size, 0, none⟩ = some (.int .i64 a0) ∧ W.cell? ⟨w.heap.size, 1, none⟩ = some (.bool an) ∧ W.cell? ⟨w.heap.size, 2, none⟩ = some (.slice aa al ac) ∧ W.cell? ⟨w.heap.size, 3, none⟩ = some (.int .i64 b0) ∧ W.cell? ⟨w.heap.size, 4, none⟩ = some (.bool bn) ∧ W.cell? ⟨w.heap.size, 5, none⟩ = some (.slice ba bl bc) ∧ W.cell? ⟨w.heap.size + 1, 0, none⟩ = some (.int .i64 d0) ∧ W.cell? ⟨w.heap.size + 1, 1, none⟩ = some (.bool dn) ∧ W.cell? ⟨w.heap.size + 1, 2, none⟩ = some (.slice da dl dc) ∧ W.cell? ⟨w.heap.size + 1, 3, none⟩ = some (.int .i64 e0) ∧ W.cell? ⟨w.heap.size + 1, 4, none⟩ = some (.bool en) ∧ W.cell? ⟨w.heap.size + 1, 5, none⟩ = some (.slice ea el ec)) (first
   | with_reducible assumption | with_reducible exact held_put6 (by with_reducible assumption) (w.heap.size + 1 + 1) (by omega) (by omega) _ _ _ _ _ _ | go_keep) (first
   | (go_at_call_of 49 (Value.int IntKind.i64 a0)
      refine (T1.o _ ?_).mono ?_
      ·exact HQ2.o.drew
      rintro e wt1 ⟨u1, rfl, hu, hb⟩; have HU1 := Hd hu; have HT1 : Hid (Up W0 wt1) := HQ2.o.drew.trans (hb.mono HQ2.o.size); have hS0 := (HX.o wt1 HT1.o).held; clear hu hb)
   | (go_at_call_of 49 (Value.int IntKind.i64 d0)
      refine (T2.o _ ?_).mono ?_
      ·exact HT1.o
      rintro e wt2 ⟨u2, rfl, hu, hb⟩; have HU2 := Hd hu; have HT2 : Hid (Up W0 wt2) := HT1.o.trans (hb.mono HT1.o.size); have HV1 := Hd (HU1.o.below hb); have hS1 := (HX.o wt2 HT2.o).held; clear hu hb)
   | (go_at_call 44
      refine (l1AddN_any 0 _ _ _ _ 560 560 _ (Nat.zero_le _) HV1.o HU2.o (by omega) (by omega)).mono ?_; rintro e wp ⟨up, rfl, hu, hb⟩; have HUP : Hid (NumZ 0 wp up (x1 * y2 + x2 * y1) 561) := numZ_lt hu HSUM.o; have HTP : Hid (Up W0 wp) := HT2.o.trans (hb.mono HT2.o.size); have hSp := (HX.o wp HTP.o).held; clear hu hb)
   | (go_at_call_of 49 (Value.int IntKind.i64 e0)
      refine (T3.o _ ?_).mono ?_
      ·exact HTP.o
      rintro e wt3 ⟨u3, rfl, hu, hb⟩; have HU3 := Hd hu; have HT3 : Hid (Up W0 wt3) := HTP.o.trans (hb.mono HTP.o.size); have HVP := Hd (HUP.o.below hb); have hS2 := (HX.o wt3 HT3.o).held; clear hu hb)
   | (go_at_call 66
      refine (l2Make_any 0 _ _ (x1 * y2 + x2 * y1) (y1 * y2) _ (Nat.zero_le _) (numZ_le HVP.o (by omega)) (numZ_le HU3.o (by omega)) HD.o).mono ?_; rintro e wm ⟨zr, p, q, rfl, hr, hlow, hb⟩; have HLOW := Hd hlow; have HTM : Hid (Up W0 wm) := HT3.o.trans (hb.mono HT3.o.size); obtain ⟨g0, gn, ga, gl, gc, h0, hn, hA, hl, hc, rfl, hg, hh⟩ := hr; have HG := Hd hg; have HH := Hd hh; have hxa := HX.o wm HTM.o; have hSm := hxa.held; obtain ⟨r0, r1, r2, r3, r4, r5⟩ := hxa.r.c6; obtain ⟨f0, f1, f2, f3, f4, f5⟩ := hxa.r.f6; clear hg hh hlow hb hxa))
  all_goals
   try simp only [List.getElem_toArray, List.getElem_cons_succ, List.getElem_cons_zero, Act.put, List.setIfInBounds_toArray, List.set_cons_succ, List.set_cons_zero]
   go_wp2
   have hbw := (HX.o wm HTM.o).r; have hnR : NoInt wm (w.heap.size + 1 + 1) := noInt_of hbw (by simp); have hk := keeps6 wm (w.heap.size + 1 + 1) (.int .i64 g0) (.bool gn) (.slice ga gl gc) (.int .i64 h0) (.bool hn) (.slice hA hl hc); have hP9 := (HG.o).keeps hnR hnR hk; have hQ9 := (HH.o).keeps hnR hnR hk; have hB9 := set6 (HB0.o.trans (HTM.o.mono HB0.o.size)) (w.heap.size + 1 + 1) (by omega) (.int .i64 g0) (.bool gn) (.slice ga gl gc) (.int .i64 h0) (.bool hn) (.slice hA hl hc); have hZ := hbw.put6 (.int .i64 g0) (.bool gn) (.slice ga gl gc) (.int .i64 h0) (.bool hn) (.slice hA hl hc); have hWW : ((((((wm.setCell ⟨w.heap.size + 1 + 1, 0, none⟩ (.int .i64 g0)).setCell ⟨w.heap.size + 1 + 1, 1, none⟩ (.bool gn)).setCell ⟨w.heap.size + 1 + 1, 2, none⟩ (.slice ga gl gc)).setCell ⟨w.heap.size + 1 + 1, 3, none⟩ (.int .i64 h0)).setCell ⟨w.heap.size + 1 + 1, 4, none⟩ (.bool hn)).setCell ⟨w.heap.size + 1 + 1, 5, none⟩ (.slice hA hl hc)) = W6 wm (w.heap.size + 1 + 1) (.int .i64 g0) (.bool gn) (.slice ga gl gc) (.int .i64 h0) (.bool hn) (.slice hA hl hc) := rfl; rw [hWW]; generalize W6 wm (w.heap.size + 1 + 1) (.int .i64 g0) (.bool gn) (.slice ga gl gc) (.int .i64 h0) (.bool hn) (.slice hA hl hc) = W9 at *; obtain ⟨o0, o1, o2, o3, o4, o5⟩ := hZ.c6; refine bodyPost_ret (v := .agg #[.int .i64 g0, .bool gn, .slice ga gl gc, .int .i64 h0, .bool hn, .slice hA hl hc]) ?_ rfl ⟨_, p, q, rfl, ⟨g0, gn, ga, gl, gc, h0, hn, hA, hl, hc, rfl, hP9, hQ9⟩, HLOW.o, hB9⟩; simp [results, Tryz.results76, go_sem, o0, o1, o2, o3, o4, o5]
 have z : decide (y1 = 1) = false := decide_eq_false hy1; rw [z]; clear z hy1
 go_wp2_with fail
 go_region_held3 (fun W => W.cell? ⟨w.heap.size, 0, none⟩ = some (.int .i64 a0) ∧ W.cell? ⟨w.heap.size, 1, none⟩ = some (.bool an) ∧ W.cell? ⟨w.heap.size, 2, none⟩ = some (.slice aa al ac) ∧ W.cell? ⟨w.heap.size, 3, none⟩ = some (.int .i64 b0) ∧ W.cell? ⟨w.heap.size, 4, none⟩ = some (.bool bn) ∧ W.cell? ⟨w.heap.size, 5, none⟩ = some (.slice ba bl bc) ∧ W.cell? ⟨w.heap.size + 1, 0, none⟩ = some (.int .i64 d0) ∧ W.cell? ⟨w.heap.size + 1, 1, none⟩ = some (.bool dn) ∧ W.cell? ⟨w.heap.size + 1, 2, none⟩ = some (.slice da dl dc) ∧ W.cell? ⟨w.heap.size + 1, 3, none⟩ = some (.int .i64 e0) ∧ W.cell? ⟨w.heap.size + 1, 4, none⟩ = some (.bool en) ∧ W.cell? ⟨w.heap.size + 1, 5, none⟩ = some (.slice ea el ec)) (first
  | with_reducible assumption | with_reducible exact held_put6 (by with_reducible assumption) (w.heap.size + 1 + 1) (by omega) (by omega) _ _ _ _ _ _ | go_keep) (first
  | (go_at_call_of 49 (Value.int IntKind.i64 a0)
     refine (T1.o _ ?_).mono ?_
     ·exact HQ1.o.drew
     rintro e wt1 ⟨u1, rfl, hu, hb⟩; have HU1 := Hd hu; have HT1 : Hid (Up W0 wt1) := HQ1.o.drew.trans (hb.mono HQ1.o.size); have hS0 := (HX.o wt1 HT1.o).held; clear hu hb)
  | (go_at_call_of 49 (Value.int IntKind.i64 d0)
     refine (T2.o _ ?_).mono ?_
     ·exact HT1.o
     rintro e wt2 ⟨u2, rfl, hu, hb⟩; have HU2 := Hd hu; have HT2 : Hid (Up W0 wt2) := HT1.o.trans (hb.mono HT1.o.size); have HV1 := Hd (HU1.o.below hb); have hS1 := (HX.o wt2 HT2.o).held; clear hu hb)
  | (go_at_call 44
     refine (l1AddN_any 0 _ _ _ _ 560 560 _ (Nat.zero_le _) HV1.o HU2.o (by omega) (by omega)).mono ?_; rintro e wp ⟨up, rfl, hu, hb⟩; have HUP : Hid (NumZ 0 wp up (x1 * y2 + x2 * y1) 561) := numZ_lt hu HSUM.o; have HTP : Hid (Up W0 wp) := HT2.o.trans (hb.mono HT2.o.size); have hSp := (HX.o wp HTP.o).held; clear hu hb)
  | (go_at_call_of 49 (Value.int IntKind.i64 e0)
     refine (T3.o _ ?_).mono ?_
     ·exact HTP.o
     rintro e wt3 ⟨u3, rfl, hu, hb⟩; have HU3 := Hd hu; have HT3 : Hid (Up W0 wt3) := HTP.o.trans (hb.mono HTP.o.size); have HVP := Hd (HUP.o.below hb); have hS2 := (HX.o wt3 HT3.o).held; clear hu hb)
  | (go_at_call 66
     refine (l2Make_any 0 _ _ (x1 * y2 + x2 * y1) (y1 * y2) _ (Nat.zero_le _) (numZ_le HVP.o (by omega)) (numZ_le HU3.o (by omega)) HD.o).mono ?_; rintro e wm ⟨zr, p, q, rfl, hr, hlow, hb⟩; have HLOW := Hd hlow; have HTM : Hid (Up W0 wm) := HT3.o.trans (hb.mono HT3.o.size); obtain ⟨g0, gn, ga, gl, gc, h0, hn, hA, hl, hc, rfl, hg, hh⟩ := hr; have HG := Hd hg; have HH := Hd hh; have hxa := HX.o wm HTM.o; have hSm := hxa.held; obtain ⟨r0, r1, r2, r3, r4, r5⟩ := hxa.r.c6; obtain ⟨f0, f1, f2, f3, f4, f5⟩ := hxa.r.f6; clear hg hh hlow hb hxa))
 all_goals
  try simp only [List.getElem_toArray, List.getElem_cons_succ, List.getElem_cons_zero, Act.put, List.setIfInBounds_toArray, List.set_cons_succ, List.set_cons_zero]
  go_wp2
  have hbw := (HX.o wm HTM.o).r; have hnR : NoInt wm (w.heap.size + 1 + 1) := noInt_of hbw (by simp); have hk := keeps6 wm (w.heap.size + 1 + 1) (.int .i64 g0) (.bool gn) (.slice ga gl gc) (.int .i64 h0) (.bool hn) (.slice hA hl hc); have hP9 := (HG.o).keeps hnR hnR hk; have hQ9 := (HH.o).keeps hnR hnR hk; have hB9 := set6 (HB0.o.trans (HTM.o.mono HB0.o.size)) (w.heap.size + 1 + 1) (by omega) (.int .i64 g0) (.bool gn) (.slice ga gl gc) (.int .i64 h0) (.bool hn) (.slice hA hl hc); have hZ := hbw.put6 (.int .i64 g0) (.bool gn) (.slice ga gl gc) (.int .i64 h0) (.bool hn) (.slice hA hl hc); have hWW : ((((((wm.setCell ⟨w.heap.size + 1 + 1, 0, none⟩ (.int .i64 g0)).setCell ⟨w.heap.size + 1 + 1, 1, none⟩ (.bool gn)).setCell ⟨w.heap.size + 1 + 1, 2, none⟩ (.slice ga gl gc)).setCell ⟨w.heap.size + 1 + 1, 3, none⟩ (.int .i64 h0)).setCell ⟨w.heap.size + 1 + 1, 4, none⟩ (.bool hn)).setCell ⟨w.heap.size + 1 + 1, 5, none⟩ (.slice hA hl hc)) = W6 wm (w.heap.size + 1 + 1) (.int .i64 g0) (.bool gn) (.slice ga gl gc) (.int .i64 h0) (.bool hn) (.slice hA hl hc) := rfl; rw [hWW]; generalize W6 wm (w.heap.size + 1 + 1) (.int .i64 g0) (.bool gn) (.slice ga gl gc) (.int .i64 h0) (.bool hn) (.slice hA hl hc) = W9 at *; obtain ⟨o0, o1, o2, o3, o4, o5⟩ := hZ.c6; refine bodyPost_ret (v := .agg #[.int .i64 g0, .bool gn, .slice ga gl gc, .int .i64 h0, .bool hn, .slice hA hl hc]) ?_ rfl ⟨_, p, q, rfl, ⟨g0, gn, ga, gl, gc, h0, hn, hA, hl, hc, rfl, hP9, hQ9⟩, HLOW.o, hB9⟩; simp [results, Tryz.results76, go_sem, o0, o1, o2, o3, o4, o5]
abbrev RatAddRes : ByteArray → ByteArray → ByteArray → Prop := IsResQ (fun x1 y1 x2 y2 => x1 * y2 + x2 * y1) (fun _ y1 _ y2 => y1 * y2) (fun _ => True)
set_option maxRecDepth 100000 in
set_option maxHeartbeats 2000000 in
theorem specRatAdd_any (s t : ByteArray) (w : World) (hs : s.size ≤ maxLen) (ht : t.size ≤ maxLen) :
 Calls Tryz.prog 32 #[.string s, .string t] w fun e w' => ∃ u, e = .returned (.string u) ∧ RatAddRes s t u ∧ Up w w' := by
 go_enter Tryz.func32, Tryz.ntmps32
 go_wp2_with fail
 refine (specIsRat_any s _ hs).mono ?_; rintro e w1 ⟨b, rfl, hR1, hb1⟩; obtain ⟨k, hk, hi1⟩ := hR1; obtain ⟨m, hm⟩ := isCut_ex t; have HK := Hd hk; have HM := Hd hm; have HI1 := Hd hi1; have HB1 := Hd hb1; clear hk hm hi1 hb1
 cases b
 ·have HF : Hid (RatAddRes s t ⟨#[]⟩) := ⟨k, m, HK.o, HM.o, .inr ⟨fun h => by obtain ⟨_, _, _, _, g, _⟩ := h; exact Bool.noConfusion (HI1.o.2 ⟨_, _, g⟩), rfl⟩⟩
  go_wp2
  go_ret
  exact ⟨_, rfl, HF.o, HB1.o⟩
 go_wp2_with fail
 refine (specIsRat_any t _ ht).mono ?_; rintro e w2 ⟨b, rfl, hR2, hb2⟩; obtain ⟨m', hm', hi2⟩ := hR2; obtain rfl := isCut_unique hm' HM.o; have HI2 := Hd hi2; have HB2 := Hd (HB1.o.trans (hb2.mono HB1.o.size)); clear hm' hi2 hb2
 cases b
 ·have HF : Hid (RatAddRes s t ⟨#[]⟩) := ⟨k, _, HK.o, HM.o, .inr ⟨fun h => by obtain ⟨_, _, _, _, _, g, _⟩ := h; exact Bool.noConfusion (HI2.o.2 ⟨_, _, g⟩), rfl⟩⟩
  go_wp2
  go_ret
  exact ⟨_, rfl, HF.o, HB2.o⟩
 obtain ⟨x1, y1, hV1⟩ := HI1.o.1 (by first | exact rfl | trivial); obtain ⟨x2, y2, hV2⟩ := HI2.o.1 (by first | exact rfl | trivial); have HV1 := Hd hV1; have HV2 := Hd hV2; have hl1 := ratV_lt hV1; have hl2 := ratV_lt hV2; have HLL : Hid (x1.natAbs < lb 280 ∧ y1.natAbs < lb 280 ∧ x2.natAbs < lb 280 ∧ y2.natAbs < lb 280) := ⟨hl1.1, hl1.2.1, hl2.1, hl2.2.1⟩; have HDEN : Hid (y1 * y2 ≠ 0) := by
  unfold Hid
  have h := Int.mul_pos hl1.2.2 hl2.2.2; omega
 have HF : Hid (∀ p q u, IsLow (x1 * y2 + x2 * y1) (y1 * y2) p q → TextR p q u → RatAddRes s t u) := fun p q u h1 h2 => ⟨k, _, HK.o, HM.o, .inl ⟨x1, y1, x2, y2, p, q, hV1, hV2, trivial, h1, h2⟩⟩; clear hV1 hV2 hl1 hl2
 go_wp2_with fail
 refine (l2Read_any s k x1 y1 _ hs HK.o HV1.o).mono ?_; rintro e w3 ⟨z1, rfl, hz1, hb3⟩; have HZ1 := Hd hz1; have HB3 := Hd (HB2.o.trans (hb3.mono HB2.o.size)); clear hz1 hb3
 go_wp2_with fail
 refine (l2Read_any t _ x2 y2 _ ht HM.o HV2.o).mono ?_; rintro e w4 ⟨z2, rfl, hz2, hb4⟩; have HZ1' : Hid (IsQN 0 w4 z1 x1 y1) := qn_zero (HZ1.o.below hb4); have HZ2 : Hid (IsQN 0 w4 z2 x2 y2) := qn_zero hz2; have HB4 := Hd (HB3.o.trans (hb4.mono HB3.o.size)); clear hz2 hb4
 go_wp2_with fail
 refine (l2Add_any 0 z1 z2 x1 y1 x2 y2 _ (Nat.zero_le _) HZ1'.o HZ2.o HLL.o HDEN.o).mono ?_; rintro e w5 ⟨z5, p, q, rfl, hq, hlow, hb5⟩; have HQ := Hd hq; have HLOW := Hd hlow; have HB5 := Hd (HB4.o.trans (hb5.mono HB4.o.size)); clear hq hlow hb5
 go_wp2_with fail
 refine (l2Told_any 0 z5 p q _ (Nat.zero_le _) HQ.o).mono ?_; rintro e w6 ⟨u, rfl, hu, hb6⟩; have HE := Hd (HF.o _ _ _ HLOW.o hu); have HB6 := Hd (HB5.o.trans (hb6.mono HB5.o.size)); clear hu hb6
 go_wp2
 go_ret
 exact ⟨_, rfl, HE.o, HB6.o⟩
end Go.Proofs.YtfmpapcfhoomkaaGreatDoor
