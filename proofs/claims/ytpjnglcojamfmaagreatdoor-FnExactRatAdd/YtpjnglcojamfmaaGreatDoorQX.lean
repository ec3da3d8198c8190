import Derived.Test.YtpjnglcojamfmaaGreatDoorQI
import Derived.Test.YtpjnglcojamfmaaGreatDoorQQ
namespace Go.Proofs.YtpjnglcojamfmaaGreatDoor
open Go.ChangeShapes Go.WideShapes Go.ChangeAt Go.RowKit
set_option maxRecDepth 100000 in
set_option maxHeartbeats 8000000 in
theorem plusQ_any (B : Nat) (za zb : Value) (x1 y1 x2 y2 : Int) (w : World) (ha : IsQR B w za x1 y1 280) (hb : IsQR B w zb x2 y2 280) (hd : y1 * y2 ≠ 0) (hlt : (x1 * y2 + x2 * y1).natAbs < lb 561) (hSP : SP w) (hNS : NS w) :
    Calls Tryz.prog 80 #[za, zb] w fun e w' => ∃ z p q, e = .returned z ∧ IsQR 0 w' z p q 564 ∧ IsLow (x1 * y2 + x2 * y1) (y1 * y2) p q ∧ Below w.heap.size w w' := by
  obtain ⟨s1, p1, l1, c1, s2, p2, l2, c2, rfl, h1, h2⟩ := ha.shape
  obtain ⟨s3, p3, l3, c3, s4, p4, l4, c4, rfl, h3, h4⟩ := hb.shape
  have H1 := hidG h1
  have H2 := hidG h2
  have H3 := hidG h3
  have H4 := hidG h4
  have HSP := hidG hSP
  have HNS := hidG hNS
  have HD := hidG hd
  have HLT := hidG hlt
  clear ha hb h1 h2 h3 h4 hSP hNS hd hlt
  obtain ⟨W0, hW0⟩ : ∃ W0, ((w.alloc (.cells #[.bool s1, .slice p1 l1 c1, .bool s2, .slice p2 l2 c2] 65)).alloc (.cells #[.bool s3, .slice p3 l3 c3, .bool s4, .slice p4 l4 c4] 65)).alloc (.cells #[.bool false, .slice none 0 0, .bool false, .slice none 0 0] 65) = W0 := ⟨_, rfl⟩
  have HW0 := hidG hW0
  have HB0 : Hid (Below w.heap.size w W0) := by show Below w.heap.size w W0; rw [← hW0]; exact below_al (below_al (below_alloc _ _) _) _
  have hx0 : BxR w.heap.size W0 s1 p1 l1 c1 s2 p2 l2 c2 s3 p3 l3 c3 s4 p4 l4 c4 := by
    refine ⟨?_, ?_, ?_⟩
    · rw [← hW0]; exact ((bx_new w _ _).alloc _).alloc _
    · rw [← hW0]
      have h := bx_new (w.alloc (.cells #[.bool s1, .slice p1 l1 c1, .bool s2, .slice p2 l2 c2] 65)) [.bool s3, .slice p3 l3 c3, .bool s4, .slice p4 l4 c4] 65
      rw [World.size_alloc] at h
      exact h.alloc _
    · rw [← hW0]
      have h := bx_new ((w.alloc (.cells #[.bool s1, .slice p1 l1 c1, .bool s2, .slice p2 l2 c2] 65)).alloc (.cells #[.bool s3, .slice p3 l3 c3, .bool s4, .slice p4 l4 c4] 65)) [.bool false, .slice none 0 0, .bool false, .slice none 0 0] 65
      rw [World.size_alloc, World.size_alloc] at h
      exact h
  have HX : Hid (∀ W, Below W0.heap.size W0 W → BxR w.heap.size W s1 p1 l1 c1 s2 p2 l2 c2 s3 p3 l3 c3 s4 p4 l4 c4) := fun W hW => hx0.below hx0.r.lt hW
  have T1 : Hid (∀ W, Below W0.heap.size W0 W → Calls Tryz.prog 113 #[.agg #[.bool s1, .slice p1 l1 c1], .agg #[.bool s4, .slice p4 l4 c4]] W (fun e w' => ∃ z, e = .returned z ∧ IsI 0 w' z (x1 * y2) 560 ∧ Below W.heap.size W w')) := fun W hW => by
    refine (times_any B _ _ _ _ 280 280 W ((H1.out.below HB0.out).below hW) ((H4.out.below HB0.out).below hW) (by omega) (by omega) ((HSP.out.below HB0.out).below hW)).mono ?_
    rintro e w' ⟨z, rfl, hz, hb⟩
    exact ⟨z, rfl, hz.mono (Nat.zero_le _) (Nat.le_refl _), hb⟩
  have T2 : Hid (∀ W, Below W0.heap.size W0 W → Calls Tryz.prog 113 #[.agg #[.bool s3, .slice p3 l3 c3], .agg #[.bool s2, .slice p2 l2 c2]] W (fun e w' => ∃ z, e = .returned z ∧ IsI 0 w' z (x2 * y1) 560 ∧ Below W.heap.size W w')) := fun W hW => by
    refine (times_any B _ _ _ _ 280 280 W ((H3.out.below HB0.out).below hW) ((H2.out.below HB0.out).below hW) (by omega) (by omega) ((HSP.out.below HB0.out).below hW)).mono ?_
    rintro e w' ⟨z, rfl, hz, hb⟩
    exact ⟨z, rfl, hz.mono (Nat.zero_le _) (Nat.le_refl _), hb⟩
  have T3 : Hid (∀ W, Below W0.heap.size W0 W → Calls Tryz.prog 113 #[.agg #[.bool s2, .slice p2 l2 c2], .agg #[.bool s4, .slice p4 l4 c4]] W (fun e w' => ∃ z, e = .returned z ∧ IsI 0 w' z (y1 * y2) 560 ∧ Below W.heap.size W w')) := fun W hW => by
    refine (times_any B _ _ _ _ 280 280 W ((H2.out.below HB0.out).below hW) ((H4.out.below HB0.out).below hW) (by omega) (by omega) ((HSP.out.below HB0.out).below hW)).mono ?_
    rintro e w' ⟨z, rfl, hz, hb⟩
    exact ⟨z, rfl, hz.mono (Nat.zero_le _) (Nat.le_refl _), hb⟩
  have k0 := hx0.a.cell 0
  have k1 := hx0.a.cell 1
  have k2 := hx0.a.cell 2
  have k3 := hx0.a.cell 3
  simp only [List.getElem?_cons_zero, List.getElem?_cons_succ] at k0 k1 k2 k3
  have j0 := hx0.b.cell 0
  have j1 := hx0.b.cell 1
  have j2 := hx0.b.cell 2
  have j3 := hx0.b.cell 3
  simp only [List.getElem?_cons_zero, List.getElem?_cons_succ] at j0 j1 j2 j3
  clear hW0 hx0
  go_enter Tryz.func80, Tryz.ntmps80
  go_upto_region 1 with fail
  rw [HW0.out]
  go_wp2_with fail
  go_region_held3 (fun W => W.cell? ⟨w.heap.size, 0, none⟩ = some (.bool s1) ∧ W.cell? ⟨w.heap.size, 1, none⟩ = some (.slice p1 l1 c1) ∧ W.cell? ⟨w.heap.size, 2, none⟩ = some (.bool s2) ∧ W.cell? ⟨w.heap.size, 3, none⟩ = some (.slice p2 l2 c2) ∧ W.cell? ⟨w.heap.size + 1, 0, none⟩ = some (.bool s3) ∧ W.cell? ⟨w.heap.size + 1, 1, none⟩ = some (.slice p3 l3 c3) ∧ W.cell? ⟨w.heap.size + 1, 2, none⟩ = some (.bool s4) ∧ W.cell? ⟨w.heap.size + 1, 3, none⟩ = some (.slice p4 l4 c4)) (first | with_reducible assumption | with_reducible exact held_put (by with_reducible assumption) (w.heap.size + 1 + 1) (by omega) (by omega) _ _ _ _ | go_keep) (first
    | (go_at_call_of 113 (Value.slice p1 l1 c1)
       refine (T1.out _ ?_).mono ?_
       · exact (Below.refl _ W0).drew
       rintro e wt1 ⟨u1, rfl, hu, hb⟩
       have HU1 := hidG hu
       have HQ1 : Hid (Below W0.heap.size W0 wt1) := (Below.refl _ W0).drew.trans hb
       have hS0 := (HX.out wt1 HQ1.out).held
       clear hu hb)
    | (go_at_call_of 113 (Value.slice p3 l3 c3)
       refine (T2.out _ ?_).mono ?_
       · exact HQ1.out
       rintro e wt2 ⟨u2, rfl, hu, hb⟩
       have HU2 := hidG hu
       have HQ2 : Hid (Below W0.heap.size W0 wt2) := HQ1.out.trans (hb.mono HQ1.out.size)
       have HV1 := hidG (HU1.out.below hb)
       have hS1 := (HX.out wt2 HQ2.out).held
       clear hu hb)
    | (go_at_call 43
       refine (plus_any 0 _ _ _ _ 560 560 _ HV1.out HU2.out (by omega) (by omega) ((HSP.out.below HB0.out).below HQ2.out)).mono ?_
       rintro e wp ⟨up, rfl, hu, hb⟩
       have HUP : Hid (IsI 0 wp up (x1 * y2 + x2 * y1) 561) := (hu.mono (B' := 0) (Nat.zero_le _) (Nat.le_refl _)).tight (HLT.out)
       have HQP : Hid (Below W0.heap.size W0 wp) := HQ2.out.trans (hb.mono HQ2.out.size)
       have hSp := (HX.out wp HQP.out).held
       clear hu hb)
    | (go_at_call_of 113 (Value.slice p4 l4 c4)
       refine (T3.out _ ?_).mono ?_
       · exact HQP.out
       rintro e wt3 ⟨u3, rfl, hu, hb⟩
       have HU3 := hidG hu
       have HQ3 : Hid (Below W0.heap.size W0 wt3) := HQP.out.trans (hb.mono HQP.out.size)
       have HVP := hidG (HUP.out.below hb)
       have hS2 := (HX.out wt3 HQ3.out).held
       clear hu hb)
    | (go_at_call 112
       refine (makeRational_any 0 _ _ (x1 * y2 + x2 * y1) (y1 * y2) 561 _ (Nat.zero_le _) HVP.out (HU3.out.mono (Nat.le_refl _) (by omega)) HD.out (by omega) ((HSP.out.below HB0.out).below HQ3.out) ((HNS.out.below HB0.out).below HQ3.out)).mono ?_
       rintro e wm ⟨zr, p, q, rfl, hr, hlow, hb⟩
       have HR := hidG (hr.mono (Nat.le_refl _) (n' := 564) (by omega))
       have HLOW := hidG hlow
       have HQM : Hid (Below W0.heap.size W0 wm) := HQ3.out.trans (hb.mono HQ3.out.size)
       obtain ⟨t1, a1, e1, g1, t2, a2, e2, g2, rfl, _, _⟩ := hr.shape
       have hxa := HX.out wm HQM.out
       have hSm := hxa.held
       have r0 := hxa.r.cell 0
       have r1 := hxa.r.cell 1
       have r2 := hxa.r.cell 2
       have r3 := hxa.r.cell 3
       simp only [List.getElem?_cons_zero, List.getElem?_cons_succ] at r0 r1 r2 r3
       have f0 := hxa.r.frozen 0
       have f1 := hxa.r.frozen 1
       have f2 := hxa.r.frozen 2
       have f3 := hxa.r.frozen 3
       clear hr hlow hb hxa))
  all_goals
    try simp only [List.getElem_toArray, List.getElem_cons_succ, List.getElem_cons_zero, Act.put, List.setIfInBounds_toArray, List.set_cons_succ, List.set_cons_zero]
    go_wp2
    have hbw := (HX.out wm HQM.out).r
    have hnR : NoInt wm (w.heap.size + 1 + 1) := noInt_of hbw (by simp)
    have hD9 := HR.out.put4 hnR (.bool t1) (.slice a1 e1 g1) (.bool t2) (.slice a2 e2 g2)
    have hB9 := set4 (HB0.out.trans (HQM.out.mono HB0.out.size)) (w.heap.size + 1 + 1) (by omega) (.bool t1) (.slice a1 e1 g1) (.bool t2) (.slice a2 e2 g2)
    have hZ : Bx ((((wm.setCell ⟨w.heap.size + 1 + 1, 0, none⟩ (.bool t1)).setCell ⟨w.heap.size + 1 + 1, 1, none⟩ (.slice a1 e1 g1)).setCell ⟨w.heap.size + 1 + 1, 2, none⟩ (.bool t2)).setCell ⟨w.heap.size + 1 + 1, 3, none⟩ (.slice a2 e2 g2)) (w.heap.size + 1 + 1) [.bool t1, .slice a1 e1 g1, .bool t2, .slice a2 e2 g2] := (((hbw.set 0 _).set 1 _).set 2 _).set 3 _
    generalize (((wm.setCell ⟨w.heap.size + 1 + 1, 0, none⟩ (.bool t1)).setCell ⟨w.heap.size + 1 + 1, 1, none⟩ (.slice a1 e1 g1)).setCell ⟨w.heap.size + 1 + 1, 2, none⟩ (.bool t2)).setCell ⟨w.heap.size + 1 + 1, 3, none⟩ (.slice a2 e2 g2) = W9 at *
    have v0 := hZ.cell 0
    have v1 := hZ.cell 1
    have v2 := hZ.cell 2
    have v3 := hZ.cell 3
    simp only [List.getElem?_cons_zero, List.getElem?_cons_succ] at v0 v1 v2 v3
    refine bodyPost_ret (v := .agg #[.bool t1, .slice a1 e1 g1, .bool t2, .slice a2 e2 g2]) ?_ rfl ⟨_, p, q, rfl, hD9, HLOW.out, hB9⟩
    simp [results, Tryz.results80, go_sem, v0, v1, v2, v3]
end Go.Proofs.YtpjnglcojamfmaaGreatDoor
namespace Go.Proofs.YtpjnglcojamfmaaGreatDoor
open Go.ChangeShapes Go.WideShapes Go.ChangeAt Go.RowKit
set_option maxRecDepth 100000 in
set_option maxHeartbeats 8000000 in
theorem l2Add_any (B : Nat) (za zd : Value) (x1 y1 x2 y2 : Int) (w : World) (hBw : B ≤ w.heap.size) (ha : IsQN B w za x1 y1) (hd : IsQN B w zd x2 y2) (hlt : x1.natAbs < lb 280 ∧ y1.natAbs < lb 280 ∧ x2.natAbs < lb 280 ∧ y2.natAbs < lb 280) (hden : y1 * y2 ≠ 0) :
    Calls Tryz.prog 79 #[za, zd] w fun e w' => ∃ z p q, e = .returned z ∧ IsQN 0 w' z p q ∧ IsLow (x1 * y2 + x2 * y1) (y1 * y2) p q ∧ Below w.heap.size w w' := by
  have HQA := hidG ha
  have HQD := hidG hd
  have HL := hidG hlt
  have HD := hidG hden
  obtain ⟨a0, an, aa, al, ac, b0, bn, ba, bl, bc, rfl, h1, h2⟩ := ha
  obtain ⟨d0, dn, da, dl, dc, e0, en, ea, el, ec, rfl, h3, h4⟩ := hd
  have H1 := hidG h1
  have H2 := hidG h2
  have H3 := hidG h3
  have H4 := hidG h4
  have HBW := hidG hBw
  clear h1 h2 h3 h4 hBw hlt hden
  have HSUM : Hid ((x1 * y2 + x2 * y1).natAbs < lb 561) := add_lt (mul_lt HL.out.1 HL.out.2.2.2) (mul_lt HL.out.2.2.1 HL.out.2.1)
  obtain ⟨W0, hW0⟩ : ∃ W0, ((w.alloc (.cells #[.int .i64 a0, .bool an, .slice aa al ac, .int .i64 b0, .bool bn, .slice ba bl bc] 71)).alloc (.cells #[.int .i64 d0, .bool dn, .slice da dl dc, .int .i64 e0, .bool en, .slice ea el ec] 71)).alloc (.cells #[.int .i64 0, .bool false, .slice none 0 0, .int .i64 0, .bool false, .slice none 0 0] 71) = W0 := ⟨_, rfl⟩
  have HW0 := hidG hW0
  have HB0 : Hid (Below w.heap.size w W0) := by show Below w.heap.size w W0; rw [← hW0]; exact below_al (below_al (below_alloc _ _) _) _
  have hx0 : BxT w.heap.size W0 a0 an aa al ac b0 bn ba bl bc d0 dn da dl dc e0 en ea el ec := by
    refine ⟨?_, ?_, ?_⟩
    · rw [← hW0]; exact ((bx_new w _ _).alloc _).alloc _
    · rw [← hW0]
      have h := bx_new (w.alloc (.cells #[.int .i64 a0, .bool an, .slice aa al ac, .int .i64 b0, .bool bn, .slice ba bl bc] 71)) [.int .i64 d0, .bool dn, .slice da dl dc, .int .i64 e0, .bool en, .slice ea el ec] 71
      rw [World.size_alloc] at h
      exact h.alloc _
    · rw [← hW0]
      have h := bx_new ((w.alloc (.cells #[.int .i64 a0, .bool an, .slice aa al ac, .int .i64 b0, .bool bn, .slice ba bl bc] 71)).alloc (.cells #[.int .i64 d0, .bool dn, .slice da dl dc, .int .i64 e0, .bool en, .slice ea el ec] 71)) [.int .i64 0, .bool false, .slice none 0 0, .int .i64 0, .bool false, .slice none 0 0] 71
      rw [World.size_alloc, World.size_alloc] at h
      exact h
  have HX : Hid (∀ W, Below W0.heap.size W0 W → BxT w.heap.size W a0 an aa al ac b0 bn ba bl bc d0 dn da dl dc e0 en ea el ec) := fun W hW => hx0.below hx0.r.lt hW
  have T1 : Hid (∀ W, Below W0.heap.size W0 W → Calls Tryz.prog 52 #[.agg #[.int .i64 a0, .bool an, .slice aa al ac], .agg #[.int .i64 e0, .bool en, .slice ea el ec]] W (fun e w' => ∃ z, e = .returned z ∧ NumZ 0 w' z (x1 * y2) 560 ∧ Below W.heap.size W w')) := fun W hW => by
    refine (l1MulN_any B _ _ _ _ 1000 1000 W (by have := HBW.out; have := HB0.out.size; have := hW.size; omega) ((H1.out.below HB0.out).below hW) ((H4.out.below HB0.out).below hW) (by omega) (by omega)).mono ?_
    rintro e w' ⟨z, rfl, hz, hb⟩
    exact ⟨z, rfl, numZ_lt hz (mul_lt HL.out.1 HL.out.2.2.2), hb⟩
  have T2 : Hid (∀ W, Below W0.heap.size W0 W → Calls Tryz.prog 52 #[.agg #[.int .i64 d0, .bool dn, .slice da dl dc], .agg #[.int .i64 b0, .bool bn, .slice ba bl bc]] W (fun e w' => ∃ z, e = .returned z ∧ NumZ 0 w' z (x2 * y1) 560 ∧ Below W.heap.size W w')) := fun W hW => by
    refine (l1MulN_any B _ _ _ _ 1000 1000 W (by have := HBW.out; have := HB0.out.size; have := hW.size; omega) ((H3.out.below HB0.out).below hW) ((H2.out.below HB0.out).below hW) (by omega) (by omega)).mono ?_
    rintro e w' ⟨z, rfl, hz, hb⟩
    exact ⟨z, rfl, numZ_lt hz (mul_lt HL.out.2.2.1 HL.out.2.1), hb⟩
  have T3 : Hid (∀ W, Below W0.heap.size W0 W → Calls Tryz.prog 52 #[.agg #[.int .i64 b0, .bool bn, .slice ba bl bc], .agg #[.int .i64 e0, .bool en, .slice ea el ec]] W (fun e w' => ∃ z, e = .returned z ∧ NumZ 0 w' z (y1 * y2) 560 ∧ Below W.heap.size W w')) := fun W hW => by
    refine (l1MulN_any B _ _ _ _ 1000 1000 W (by have := HBW.out; have := HB0.out.size; have := hW.size; omega) ((H2.out.below HB0.out).below hW) ((H4.out.below HB0.out).below hW) (by omega) (by omega)).mono ?_
    rintro e w' ⟨z, rfl, hz, hb⟩
    exact ⟨z, rfl, numZ_lt hz (mul_lt HL.out.2.1 HL.out.2.2.2), hb⟩
  have TW : Hid (∀ W, Below W0.heap.size W0 W → Calls Tryz.prog 47 #[.agg #[.int .i64 a0, .bool an, .slice aa al ac], .agg #[.int .i64 d0, .bool dn, .slice da dl dc]] W (fun e w' => ∃ z, e = .returned z ∧ NumZ 0 w' z (x1 + x2) 561 ∧ Below W.heap.size W w')) := fun W hW => by
    refine (l1AddN_any B _ _ _ _ 1000 1000 W (by have := HBW.out; have := HB0.out.size; have := hW.size; omega) ((H1.out.below HB0.out).below hW) ((H3.out.below HB0.out).below hW) (by omega) (by omega)).mono ?_
    rintro e w' ⟨z, rfl, hz, hb⟩
    exact ⟨z, rfl, numZ_lt hz (add_lt (lb_le 280 560 (by decide) HL.out.1) (lb_le 280 560 (by decide) HL.out.2.2.1)), hb⟩
  have k0 := hx0.a.cell 0
  have k1 := hx0.a.cell 1
  have k2 := hx0.a.cell 2
  have k3 := hx0.a.cell 3
  have k4 := hx0.a.cell 4
  have k5 := hx0.a.cell 5
  simp only [List.getElem?_cons_zero, List.getElem?_cons_succ] at k0 k1 k2 k3 k4 k5
  have j0 := hx0.b.cell 0
  have j1 := hx0.b.cell 1
  have j2 := hx0.b.cell 2
  have j3 := hx0.b.cell 3
  have j4 := hx0.b.cell 4
  have j5 := hx0.b.cell 5
  simp only [List.getElem?_cons_zero, List.getElem?_cons_succ] at j0 j1 j2 j3 j4 j5
  clear hW0 hx0
  go_enter Tryz.func79, Tryz.ntmps79
  go_upto_region 1 with fail
  rw [HW0.out]
  go_wp2_with fail
  refine (l2Whole_any B _ x1 y1 W0 (by have := HBW.out; have := HB0.out.size; omega) (HQA.out.below HB0.out)).mono ?_
  rintro e w1 ⟨rfl, hb1⟩
  have HQ1 := hidG hb1
  have hx := HX.out w1 hb1
  clear hb1 k0 k1 k2 k3 k4 k5 j0 j1 j2 j3 j4 j5
  have k0 := hx.a.cell 0
  have k1 := hx.a.cell 1
  have k2 := hx.a.cell 2
  have k3 := hx.a.cell 3
  have k4 := hx.a.cell 4
  have k5 := hx.a.cell 5
  simp only [List.getElem?_cons_zero, List.getElem?_cons_succ] at k0 k1 k2 k3 k4 k5
  have j0 := hx.b.cell 0
  have j1 := hx.b.cell 1
  have j2 := hx.b.cell 2
  have j3 := hx.b.cell 3
  have j4 := hx.b.cell 4
  have j5 := hx.b.cell 5
  simp only [List.getElem?_cons_zero, List.getElem?_cons_succ] at j0 j1 j2 j3 j4 j5
  clear hx
  by_cases hy1 : y1 = 1
  · have z : decide (y1 = 1) = true := decide_eq_true hy1
    have HY1 := hidG hy1
    rw [z]
    clear z hy1
    go_wp2_with fail
    refine (l2Whole_any B _ x2 y2 w1 (by have := HBW.out; have := HB0.out.size; have := HQ1.out.size; omega) ((HQD.out.below HB0.out).below HQ1.out)).mono ?_
    rintro e w2 ⟨rfl, hb2⟩
    have HQ2 := hidG (HQ1.out.trans (hb2.mono HQ1.out.size))
    have hx := HX.out w2 HQ2.out
    clear hb2 k0 k1 k2 k3 k4 k5 j0 j1 j2 j3 j4 j5
    have k0 := hx.a.cell 0
    have k1 := hx.a.cell 1
    have k2 := hx.a.cell 2
    have k3 := hx.a.cell 3
    have k4 := hx.a.cell 4
    have k5 := hx.a.cell 5
    simp only [List.getElem?_cons_zero, List.getElem?_cons_succ] at k0 k1 k2 k3 k4 k5
    have j0 := hx.b.cell 0
    have j1 := hx.b.cell 1
    have j2 := hx.b.cell 2
    have j3 := hx.b.cell 3
    have j4 := hx.b.cell 4
    have j5 := hx.b.cell 5
    simp only [List.getElem?_cons_zero, List.getElem?_cons_succ] at j0 j1 j2 j3 j4 j5
    clear hx
    by_cases hy2 : y2 = 1
    · have z : decide (y2 = 1) = true := decide_eq_true hy2
      have HLO : Hid (IsLow (x1 * y2 + x2 * y1) (y1 * y2) (x1 + x2) y1) := by
        show IsLow (x1 * y2 + x2 * y1) (y1 * y2) (x1 + x2) y1
        have h := low_one (x1 + x2) _ _ HY1.out hy2
        rw [show x1 * y2 + x2 * y1 = x1 + x2 by rw [HY1.out, hy2, Int.mul_one, Int.mul_one]]
        exact h
      rw [z]
      clear z hy2
      go_wp2_with fail
      go_region_held3 (fun W => W.cell? ⟨w.heap.size, 0, none⟩ = some (.int .i64 a0) ∧ W.cell? ⟨w.heap.size, 1, none⟩ = some (.bool an) ∧ W.cell? ⟨w.heap.size, 2, none⟩ = some (.slice aa al ac) ∧ W.cell? ⟨w.heap.size, 3, none⟩ = some (.int .i64 b0) ∧ W.cell? ⟨w.heap.size, 4, none⟩ = some (.bool bn) ∧ W.cell? ⟨w.heap.size, 5, none⟩ = some (.slice ba bl bc) ∧ W.cell? ⟨w.heap.size + 1, 0, none⟩ = some (.int .i64 d0) ∧ W.cell? ⟨w.heap.size + 1, 1, none⟩ = some (.bool dn) ∧ W.cell? ⟨w.heap.size + 1, 2, none⟩ = some (.slice da dl dc) ∧ W.cell? ⟨w.heap.size + 1, 3, none⟩ = some (.int .i64 e0) ∧ W.cell? ⟨w.heap.size + 1, 4, none⟩ = some (.bool en) ∧ W.cell? ⟨w.heap.size + 1, 5, none⟩ = some (.slice ea el ec)) (first | with_reducible assumption | with_reducible exact held_put6 (by with_reducible assumption) (w.heap.size + 1 + 1) (by omega) (by omega) _ _ _ _ _ _ | go_keep) (first
        | (go_at_call 47
           refine (TW.out _ ?_).mono ?_
           · exact HQ2.out.drew
           rintro e wm ⟨u, rfl, hu, hb⟩
           obtain ⟨g0, gn, ga, gl, gc, rfl⟩ := hu.isN.shape
           have HG := hidG (numZ_le hu (n := 1000) (by omega))
           have HTM : Hid (Below W0.heap.size W0 wm) := HQ2.out.drew.trans (hb.mono HQ2.out.size)
           have hxa := HX.out wm HTM.out
           have hSm := hxa.held
           have r0 := hxa.r.cell 0
           have r1 := hxa.r.cell 1
           have r2 := hxa.r.cell 2
           have r3 := hxa.r.cell 3
           have r4 := hxa.r.cell 4
           have r5 := hxa.r.cell 5
           simp only [List.getElem?_cons_zero, List.getElem?_cons_succ] at r0 r1 r2 r3 r4 r5
           have f0 := hxa.r.frozen 0
           have f1 := hxa.r.frozen 1
           have f2 := hxa.r.frozen 2
           have f3 := hxa.r.frozen 3
           have f4 := hxa.r.frozen 4
           have f5 := hxa.r.frozen 5
           clear hu hb hxa))
      all_goals
        try simp only [List.getElem_toArray, List.getElem_cons_succ, List.getElem_cons_zero, Act.put, List.setIfInBounds_toArray, List.set_cons_succ, List.set_cons_zero]
        go_wp2
        have hbw := (HX.out wm HTM.out).r
        have hnR : NoInt wm (w.heap.size + 1 + 1) := noInt_of hbw (by simp)
        have hk := keeps6 wm (w.heap.size + 1 + 1) (.int .i64 g0) (.bool gn) (.slice ga gl gc) (.int .i64 b0) (.bool bn) (.slice ba bl bc)
        have hP9 := (HG.out).keeps hnR hnR hk
        have hQ9 := (((H2.out.below HB0.out).below HTM.out).mono (Nat.zero_le _)).keeps hnR hnR hk
        have hB9 := set6 (HB0.out.trans (HTM.out.mono HB0.out.size)) (w.heap.size + 1 + 1) (by omega) (.int .i64 g0) (.bool gn) (.slice ga gl gc) (.int .i64 b0) (.bool bn) (.slice ba bl bc)
        have hZ := hbw.put6 (.int .i64 g0) (.bool gn) (.slice ga gl gc) (.int .i64 b0) (.bool bn) (.slice ba bl bc)
        have hWW : ((((((wm.setCell ⟨w.heap.size + 1 + 1, 0, none⟩ (.int .i64 g0)).setCell ⟨w.heap.size + 1 + 1, 1, none⟩ (.bool gn)).setCell ⟨w.heap.size + 1 + 1, 2, none⟩ (.slice ga gl gc)).setCell ⟨w.heap.size + 1 + 1, 3, none⟩ (.int .i64 b0)).setCell ⟨w.heap.size + 1 + 1, 4, none⟩ (.bool bn)).setCell ⟨w.heap.size + 1 + 1, 5, none⟩ (.slice ba bl bc)) = W6 wm (w.heap.size + 1 + 1) (.int .i64 g0) (.bool gn) (.slice ga gl gc) (.int .i64 b0) (.bool bn) (.slice ba bl bc) := rfl
        rw [hWW]
        generalize W6 wm (w.heap.size + 1 + 1) (.int .i64 g0) (.bool gn) (.slice ga gl gc) (.int .i64 b0) (.bool bn) (.slice ba bl bc) = W9 at *
        have o0 := hZ.cell 0
        have o1 := hZ.cell 1
        have o2 := hZ.cell 2
        have o3 := hZ.cell 3
        have o4 := hZ.cell 4
        have o5 := hZ.cell 5
        simp only [List.getElem?_cons_zero, List.getElem?_cons_succ] at o0 o1 o2 o3 o4 o5
        refine bodyPost_ret (v := .agg #[.int .i64 g0, .bool gn, .slice ga gl gc, .int .i64 b0, .bool bn, .slice ba bl bc]) ?_ rfl ⟨_, _, _, rfl, ⟨g0, gn, ga, gl, gc, b0, bn, ba, bl, bc, rfl, hP9, hQ9⟩, HLO.out, hB9⟩
        simp [results, Tryz.results79, go_sem, o0, o1, o2, o3, o4, o5]
    · have z : decide (y2 = 1) = false := decide_eq_false hy2
      rw [z]
      clear z hy2
      go_wp2_with fail
      go_region_held3 (fun W => W.cell? ⟨w.heap.size, 0, none⟩ = some (.int .i64 a0) ∧ W.cell? ⟨w.heap.size, 1, none⟩ = some (.bool an) ∧ W.cell? ⟨w.heap.size, 2, none⟩ = some (.slice aa al ac) ∧ W.cell? ⟨w.heap.size, 3, none⟩ = some (.int .i64 b0) ∧ W.cell? ⟨w.heap.size, 4, none⟩ = some (.bool bn) ∧ W.cell? ⟨w.heap.size, 5, none⟩ = some (.slice ba bl bc) ∧ W.cell? ⟨w.heap.size + 1, 0, none⟩ = some (.int .i64 d0) ∧ W.cell? ⟨w.heap.size + 1, 1, none⟩ = some (.bool dn) ∧ W.cell? ⟨w.heap.size + 1, 2, none⟩ = some (.slice da dl dc) ∧ W.cell? ⟨w.heap.size + 1, 3, none⟩ = some (.int .i64 e0) ∧ W.cell? ⟨w.heap.size + 1, 4, none⟩ = some (.bool en) ∧ W.cell? ⟨w.heap.size + 1, 5, none⟩ = some (.slice ea el ec)) (first | with_reducible assumption | with_reducible exact held_put6 (by with_reducible assumption) (w.heap.size + 1 + 1) (by omega) (by omega) _ _ _ _ _ _ | go_keep) (first
        | (go_at_call_of 52 (Value.int IntKind.i64 a0)
           refine (T1.out _ ?_).mono ?_
           · exact HQ2.out.drew
           rintro e wt1 ⟨u1, rfl, hu, hb⟩
           have HU1 := hidG hu
           have HT1 : Hid (Below W0.heap.size W0 wt1) := HQ2.out.drew.trans (hb.mono HQ2.out.size)
           have hS0 := (HX.out wt1 HT1.out).held
           clear hu hb)
        | (go_at_call_of 52 (Value.int IntKind.i64 d0)
           refine (T2.out _ ?_).mono ?_
           · exact HT1.out
           rintro e wt2 ⟨u2, rfl, hu, hb⟩
           have HU2 := hidG hu
           have HT2 : Hid (Below W0.heap.size W0 wt2) := HT1.out.trans (hb.mono HT1.out.size)
           have HV1 := hidG (HU1.out.below hb)
           have hS1 := (HX.out wt2 HT2.out).held
           clear hu hb)
        | (go_at_call 47
           refine (l1AddN_any 0 _ _ _ _ 560 560 _ (Nat.zero_le _) HV1.out HU2.out (by omega) (by omega)).mono ?_
           rintro e wp ⟨up, rfl, hu, hb⟩
           have HUP : Hid (NumZ 0 wp up (x1 * y2 + x2 * y1) 561) := numZ_lt hu HSUM.out
           have HTP : Hid (Below W0.heap.size W0 wp) := HT2.out.trans (hb.mono HT2.out.size)
           have hSp := (HX.out wp HTP.out).held
           clear hu hb)
        | (go_at_call_of 52 (Value.int IntKind.i64 e0)
           refine (T3.out _ ?_).mono ?_
           · exact HTP.out
           rintro e wt3 ⟨u3, rfl, hu, hb⟩
           have HU3 := hidG hu
           have HT3 : Hid (Below W0.heap.size W0 wt3) := HTP.out.trans (hb.mono HTP.out.size)
           have HVP := hidG (HUP.out.below hb)
           have hS2 := (HX.out wt3 HT3.out).held
           clear hu hb)
        | (go_at_call 69
           refine (l2Make_any 0 _ _ (x1 * y2 + x2 * y1) (y1 * y2) _ (Nat.zero_le _) (numZ_le HVP.out (by omega)) (numZ_le HU3.out (by omega)) HD.out).mono ?_
           rintro e wm ⟨zr, p, q, rfl, hr, hlow, hb⟩
           have HLOW := hidG hlow
           have HTM : Hid (Below W0.heap.size W0 wm) := HT3.out.trans (hb.mono HT3.out.size)
           obtain ⟨g0, gn, ga, gl, gc, h0, hn, hA, hl, hc, rfl, hg, hh⟩ := hr
           have HG := hidG hg
           have HH := hidG hh
           have hxa := HX.out wm HTM.out
           have hSm := hxa.held
           have r0 := hxa.r.cell 0
           have r1 := hxa.r.cell 1
           have r2 := hxa.r.cell 2
           have r3 := hxa.r.cell 3
           have r4 := hxa.r.cell 4
           have r5 := hxa.r.cell 5
           simp only [List.getElem?_cons_zero, List.getElem?_cons_succ] at r0 r1 r2 r3 r4 r5
           have f0 := hxa.r.frozen 0
           have f1 := hxa.r.frozen 1
           have f2 := hxa.r.frozen 2
           have f3 := hxa.r.frozen 3
           have f4 := hxa.r.frozen 4
           have f5 := hxa.r.frozen 5
           clear hg hh hlow hb hxa))
      all_goals
        try simp only [List.getElem_toArray, List.getElem_cons_succ, List.getElem_cons_zero, Act.put, List.setIfInBounds_toArray, List.set_cons_succ, List.set_cons_zero]
        go_wp2
        have hbw := (HX.out wm HTM.out).r
        have hnR : NoInt wm (w.heap.size + 1 + 1) := noInt_of hbw (by simp)
        have hk := keeps6 wm (w.heap.size + 1 + 1) (.int .i64 g0) (.bool gn) (.slice ga gl gc) (.int .i64 h0) (.bool hn) (.slice hA hl hc)
        have hP9 := (HG.out).keeps hnR hnR hk
        have hQ9 := (HH.out).keeps hnR hnR hk
        have hB9 := set6 (HB0.out.trans (HTM.out.mono HB0.out.size)) (w.heap.size + 1 + 1) (by omega) (.int .i64 g0) (.bool gn) (.slice ga gl gc) (.int .i64 h0) (.bool hn) (.slice hA hl hc)
        have hZ := hbw.put6 (.int .i64 g0) (.bool gn) (.slice ga gl gc) (.int .i64 h0) (.bool hn) (.slice hA hl hc)
        have hWW : ((((((wm.setCell ⟨w.heap.size + 1 + 1, 0, none⟩ (.int .i64 g0)).setCell ⟨w.heap.size + 1 + 1, 1, none⟩ (.bool gn)).setCell ⟨w.heap.size + 1 + 1, 2, none⟩ (.slice ga gl gc)).setCell ⟨w.heap.size + 1 + 1, 3, none⟩ (.int .i64 h0)).setCell ⟨w.heap.size + 1 + 1, 4, none⟩ (.bool hn)).setCell ⟨w.heap.size + 1 + 1, 5, none⟩ (.slice hA hl hc)) = W6 wm (w.heap.size + 1 + 1) (.int .i64 g0) (.bool gn) (.slice ga gl gc) (.int .i64 h0) (.bool hn) (.slice hA hl hc) := rfl
        rw [hWW]
        generalize W6 wm (w.heap.size + 1 + 1) (.int .i64 g0) (.bool gn) (.slice ga gl gc) (.int .i64 h0) (.bool hn) (.slice hA hl hc) = W9 at *
        have o0 := hZ.cell 0
        have o1 := hZ.cell 1
        have o2 := hZ.cell 2
        have o3 := hZ.cell 3
        have o4 := hZ.cell 4
        have o5 := hZ.cell 5
        simp only [List.getElem?_cons_zero, List.getElem?_cons_succ] at o0 o1 o2 o3 o4 o5
        refine bodyPost_ret (v := .agg #[.int .i64 g0, .bool gn, .slice ga gl gc, .int .i64 h0, .bool hn, .slice hA hl hc]) ?_ rfl ⟨_, p, q, rfl, ⟨g0, gn, ga, gl, gc, h0, hn, hA, hl, hc, rfl, hP9, hQ9⟩, HLOW.out, hB9⟩
        simp [results, Tryz.results79, go_sem, o0, o1, o2, o3, o4, o5]
  · have z : decide (y1 = 1) = false := decide_eq_false hy1
    rw [z]
    clear z hy1
    go_wp2_with fail
    go_region_held3 (fun W => W.cell? ⟨w.heap.size, 0, none⟩ = some (.int .i64 a0) ∧ W.cell? ⟨w.heap.size, 1, none⟩ = some (.bool an) ∧ W.cell? ⟨w.heap.size, 2, none⟩ = some (.slice aa al ac) ∧ W.cell? ⟨w.heap.size, 3, none⟩ = some (.int .i64 b0) ∧ W.cell? ⟨w.heap.size, 4, none⟩ = some (.bool bn) ∧ W.cell? ⟨w.heap.size, 5, none⟩ = some (.slice ba bl bc) ∧ W.cell? ⟨w.heap.size + 1, 0, none⟩ = some (.int .i64 d0) ∧ W.cell? ⟨w.heap.size + 1, 1, none⟩ = some (.bool dn) ∧ W.cell? ⟨w.heap.size + 1, 2, none⟩ = some (.slice da dl dc) ∧ W.cell? ⟨w.heap.size + 1, 3, none⟩ = some (.int .i64 e0) ∧ W.cell? ⟨w.heap.size + 1, 4, none⟩ = some (.bool en) ∧ W.cell? ⟨w.heap.size + 1, 5, none⟩ = some (.slice ea el ec)) (first | with_reducible assumption | with_reducible exact held_put6 (by with_reducible assumption) (w.heap.size + 1 + 1) (by omega) (by omega) _ _ _ _ _ _ | go_keep) (first
      | (go_at_call_of 52 (Value.int IntKind.i64 a0)
         refine (T1.out _ ?_).mono ?_
         · exact HQ1.out.drew
         rintro e wt1 ⟨u1, rfl, hu, hb⟩
         have HU1 := hidG hu
         have HT1 : Hid (Below W0.heap.size W0 wt1) := HQ1.out.drew.trans (hb.mono HQ1.out.size)
         have hS0 := (HX.out wt1 HT1.out).held
         clear hu hb)
      | (go_at_call_of 52 (Value.int IntKind.i64 d0)
         refine (T2.out _ ?_).mono ?_
         · exact HT1.out
         rintro e wt2 ⟨u2, rfl, hu, hb⟩
         have HU2 := hidG hu
         have HT2 : Hid (Below W0.heap.size W0 wt2) := HT1.out.trans (hb.mono HT1.out.size)
         have HV1 := hidG (HU1.out.below hb)
         have hS1 := (HX.out wt2 HT2.out).held
         clear hu hb)
      | (go_at_call 47
         refine (l1AddN_any 0 _ _ _ _ 560 560 _ (Nat.zero_le _) HV1.out HU2.out (by omega) (by omega)).mono ?_
         rintro e wp ⟨up, rfl, hu, hb⟩
         have HUP : Hid (NumZ 0 wp up (x1 * y2 + x2 * y1) 561) := numZ_lt hu HSUM.out
         have HTP : Hid (Below W0.heap.size W0 wp) := HT2.out.trans (hb.mono HT2.out.size)
         have hSp := (HX.out wp HTP.out).held
         clear hu hb)
      | (go_at_call_of 52 (Value.int IntKind.i64 e0)
         refine (T3.out _ ?_).mono ?_
         · exact HTP.out
         rintro e wt3 ⟨u3, rfl, hu, hb⟩
         have HU3 := hidG hu
         have HT3 : Hid (Below W0.heap.size W0 wt3) := HTP.out.trans (hb.mono HTP.out.size)
         have HVP := hidG (HUP.out.below hb)
         have hS2 := (HX.out wt3 HT3.out).held
         clear hu hb)
      | (go_at_call 69
         refine (l2Make_any 0 _ _ (x1 * y2 + x2 * y1) (y1 * y2) _ (Nat.zero_le _) (numZ_le HVP.out (by omega)) (numZ_le HU3.out (by omega)) HD.out).mono ?_
         rintro e wm ⟨zr, p, q, rfl, hr, hlow, hb⟩
         have HLOW := hidG hlow
         have HTM : Hid (Below W0.heap.size W0 wm) := HT3.out.trans (hb.mono HT3.out.size)
         obtain ⟨g0, gn, ga, gl, gc, h0, hn, hA, hl, hc, rfl, hg, hh⟩ := hr
         have HG := hidG hg
         have HH := hidG hh
         have hxa := HX.out wm HTM.out
         have hSm := hxa.held
         have r0 := hxa.r.cell 0
         have r1 := hxa.r.cell 1
         have r2 := hxa.r.cell 2
         have r3 := hxa.r.cell 3
         have r4 := hxa.r.cell 4
         have r5 := hxa.r.cell 5
         simp only [List.getElem?_cons_zero, List.getElem?_cons_succ] at r0 r1 r2 r3 r4 r5
         have f0 := hxa.r.frozen 0
         have f1 := hxa.r.frozen 1
         have f2 := hxa.r.frozen 2
         have f3 := hxa.r.frozen 3
         have f4 := hxa.r.frozen 4
         have f5 := hxa.r.frozen 5
         clear hg hh hlow hb hxa))
    all_goals
      try simp only [List.getElem_toArray, List.getElem_cons_succ, List.getElem_cons_zero, Act.put, List.setIfInBounds_toArray, List.set_cons_succ, List.set_cons_zero]
      go_wp2
      have hbw := (HX.out wm HTM.out).r
      have hnR : NoInt wm (w.heap.size + 1 + 1) := noInt_of hbw (by simp)
      have hk := keeps6 wm (w.heap.size + 1 + 1) (.int .i64 g0) (.bool gn) (.slice ga gl gc) (.int .i64 h0) (.bool hn) (.slice hA hl hc)
      have hP9 := (HG.out).keeps hnR hnR hk
      have hQ9 := (HH.out).keeps hnR hnR hk
      have hB9 := set6 (HB0.out.trans (HTM.out.mono HB0.out.size)) (w.heap.size + 1 + 1) (by omega) (.int .i64 g0) (.bool gn) (.slice ga gl gc) (.int .i64 h0) (.bool hn) (.slice hA hl hc)
      have hZ := hbw.put6 (.int .i64 g0) (.bool gn) (.slice ga gl gc) (.int .i64 h0) (.bool hn) (.slice hA hl hc)
      have hWW : ((((((wm.setCell ⟨w.heap.size + 1 + 1, 0, none⟩ (.int .i64 g0)).setCell ⟨w.heap.size + 1 + 1, 1, none⟩ (.bool gn)).setCell ⟨w.heap.size + 1 + 1, 2, none⟩ (.slice ga gl gc)).setCell ⟨w.heap.size + 1 + 1, 3, none⟩ (.int .i64 h0)).setCell ⟨w.heap.size + 1 + 1, 4, none⟩ (.bool hn)).setCell ⟨w.heap.size + 1 + 1, 5, none⟩ (.slice hA hl hc)) = W6 wm (w.heap.size + 1 + 1) (.int .i64 g0) (.bool gn) (.slice ga gl gc) (.int .i64 h0) (.bool hn) (.slice hA hl hc) := rfl
      rw [hWW]
      generalize W6 wm (w.heap.size + 1 + 1) (.int .i64 g0) (.bool gn) (.slice ga gl gc) (.int .i64 h0) (.bool hn) (.slice hA hl hc) = W9 at *
      have o0 := hZ.cell 0
      have o1 := hZ.cell 1
      have o2 := hZ.cell 2
      have o3 := hZ.cell 3
      have o4 := hZ.cell 4
      have o5 := hZ.cell 5
      simp only [List.getElem?_cons_zero, List.getElem?_cons_succ] at o0 o1 o2 o3 o4 o5
      refine bodyPost_ret (v := .agg #[.int .i64 g0, .bool gn, .slice ga gl gc, .int .i64 h0, .bool hn, .slice hA hl hc]) ?_ rfl ⟨_, p, q, rfl, ⟨g0, gn, ga, gl, gc, h0, hn, hA, hl, hc, rfl, hP9, hQ9⟩, HLOW.out, hB9⟩
      simp [results, Tryz.results79, go_sem, o0, o1, o2, o3, o4, o5]
end Go.Proofs.YtpjnglcojamfmaaGreatDoor
namespace Go.Proofs.YtpjnglcojamfmaaGreatDoor
open Go.ChangeShapes Go.WideShapes Go.ChangeAt Go.RowKit
abbrev RatAddRes : ByteArray → ByteArray → ByteArray → Prop := IsResQ (fun x1 y1 x2 y2 => x1 * y2 + x2 * y1) (fun _ y1 _ y2 => y1 * y2) (fun _ => True)
set_option maxRecDepth 100000 in
set_option maxHeartbeats 2000000 in
theorem implRatAdd_any (s t : ByteArray) (w : World) (hs : s.size ≤ maxLen) (ht : t.size ≤ maxLen) (hSP : SP w) (hNS : NS w) (hLT : LT w) :
    Calls Tryz.prog 34 #[.string s, .string t] w fun e w' => ∃ u, e = .returned (.string u) ∧ RatAddRes s t u ∧ Below w.heap.size w w' := by
  obtain ⟨k, hk⟩ := isCut_ex s
  obtain ⟨m, hm⟩ := isCut_ex t
  have HK := hidG hk
  have HM := hidG hm
  have HSP := hidG hSP
  have HNS := hidG hNS
  have HLT := hidG hLT
  clear hk hm hSP hNS hLT
  go_enter Tryz.func34, Tryz.ntmps34
  go_wp2_with fail
  refine (readRationals_any s t k m _ hs ht HK.out HM.out HSP.out HNS.out HLT.out).mono ?_
  rintro e w1 ⟨z, z', o, o', rfl, hR1, hR2, hb1⟩
  have HB1 := hidG hb1
  have HR1 := hidG hR1
  have HR2 := hidG hR2
  obtain ⟨s1, p1, l1, c1, s2, p2, l2, c2, rfl⟩ := hR1.1
  obtain ⟨s3, p3, l3, c3, s4, p4, l4, c4, rfl⟩ := hR2.1
  obtain ⟨W2, hW2⟩ : ∃ W2, (w1.alloc (.cells #[.bool s1, .slice p1 l1 c1, .bool s2, .slice p2 l2 c2] 65)).alloc (.cells #[.bool s3, .slice p3 l3 c3, .bool s4, .slice p4 l4 c4] 65) = W2 := ⟨_, rfl⟩
  have HW2 := hidG hW2
  have hB2 : Below w1.heap.size w1 W2 := by rw [← hW2]; exact below_al (below_alloc _ _) _
  have HB12 := hidG hB2
  have HB2 : Hid (Below w.heap.size w W2) := HB1.out.trans (hB2.mono HB1.out.size)
  have hxa : Bx W2 w1.heap.size [.bool s1, .slice p1 l1 c1, .bool s2, .slice p2 l2 c2] := by rw [← hW2]; exact (bx_new w1 _ _).alloc _
  have hxb : Bx W2 (w1.heap.size + 1) [.bool s3, .slice p3 l3 c3, .bool s4, .slice p4 l4 c4] := by
    rw [← hW2]
    have h := bx_new (w1.alloc (.cells #[.bool s1, .slice p1 l1 c1, .bool s2, .slice p2 l2 c2] 65)) [.bool s3, .slice p3 l3 c3, .bool s4, .slice p4 l4 c4] 65
    rw [World.size_alloc] at h
    exact h
  have HX : Hid (∀ W, Below W2.heap.size W2 W → Bx W w1.heap.size [.bool s1, .slice p1 l1 c1, .bool s2, .slice p2 l2 c2] ∧ Bx W (w1.heap.size + 1) [.bool s3, .slice p3 l3 c3, .bool s4, .slice p4 l4 c4]) := fun W hW => ⟨hxa.below hxa.lt hW, hxb.below hxb.lt hW⟩
  have k0 := hxa.cell 0
  have k1 := hxa.cell 1
  have k2 := hxa.cell 2
  have k3 := hxa.cell 3
  simp only [List.getElem?_cons_zero, List.getElem?_cons_succ] at k0 k1 k2 k3
  have j0 := hxb.cell 0
  have j1 := hxb.cell 1
  have j2 := hxb.cell 2
  have j3 := hxb.cell 3
  simp only [List.getElem?_cons_zero, List.getElem?_cons_succ] at j0 j1 j2 j3
  clear hR1 hR2 hb1 hW2 hB2 hxa hxb
  go_upto_region 2 with fail
  rw [HW2.out]
  cases hoo : (o && o')
  · have HF : Hid (RatAddRes s t ⟨#[]⟩) := resQ_no HK.out HM.out HR1.out.2.1 HR2.out.2.1 hoo
    clear hoo
    go_wp2
    go_ret
    exact ⟨_, rfl, HF.out, HB2.out⟩
  · have ho : o = true ∧ o' = true := by cases o <;> cases o' <;> simp_all
    obtain ⟨x1, y1, hV1, hQ1⟩ := HR1.out.2.2 ho.1
    obtain ⟨x2, y2, hV2, hQ2⟩ := HR2.out.2.2 ho.2
    have hl1 := ratV_lt hV1
    have hl2 := ratV_lt hV2
    have HQ1 := hidG ((hQ1.below HB12.out).tight hl1.1 hl1.2.1)
    have HQ2 := hidG ((hQ2.below HB12.out).tight hl2.1 hl2.2.1)
    have HDEN : Hid (y1 * y2 ≠ 0) := by
      show y1 * y2 ≠ 0
      have h := Int.mul_pos hl1.2.2 hl2.2.2
      omega
    have HF : Hid (∀ p q u, IsLow (x1 * y2 + x2 * y1) (y1 * y2) p q → TextR p q u → RatAddRes s t u) := fun p q u h1 h2 => ⟨k, m, HK.out, HM.out, .inl ⟨x1, y1, x2, y2, p, q, hV1, hV2, trivial, h1, h2⟩⟩
    have HLN : Hid ((x1 * y2 + x2 * y1).natAbs < lb 561) := add_lt (mul_lt hl1.1 hl2.2.1) (mul_lt hl2.1 hl1.2.1)
    clear hoo ho hV1 hV2 hQ1 hQ2 hl1 hl2
    go_wp2_with fail
    refine (plusQ_any w.heap.size _ _ x1 y1 x2 y2 W2 HQ1.out HQ2.out HDEN.out HLN.out (HSP.out.below HB2.out) (HNS.out.below HB2.out)).mono ?_
    rintro e w3 ⟨z3, p, q, rfl, hr, hlow, hb3⟩
    have HR3 := hidG hr
    have HLOW := hidG hlow
    have HB3 := hidG (HB2.out.trans (hb3.mono HB2.out.size))
    obtain ⟨t1, a1, e1, g1, t2, a2, e2, g2, rfl, _, _⟩ := hr.shape
    clear hr hlow hb3 k0 k1 k2 k3 j0 j1 j2 j3
    go_wp2_with fail
    refine (textR_any 0 _ p q 564 _ (Nat.zero_le _) HR3.out (by omega) (HSP.out.below HB3.out) (HLT.out.below HB3.out)).mono ?_
    rintro e w4 ⟨u, rfl, hu, hb4⟩
    have HE := hidG (HF.out _ _ _ HLOW.out hu)
    have HB4 := hidG (HB3.out.trans (hb4.mono HB3.out.size))
    clear hu hb4
    go_wp2
    go_ret
    exact ⟨_, rfl, HE.out, HB4.out⟩
set_option maxRecDepth 100000 in
set_option maxHeartbeats 2000000 in
theorem specRatAdd_any (s t : ByteArray) (w : World) (hs : s.size ≤ maxLen) (ht : t.size ≤ maxLen) :
    Calls Tryz.prog 33 #[.string s, .string t] w fun e w' => ∃ u, e = .returned (.string u) ∧ RatAddRes s t u ∧ Below w.heap.size w w' := by
  go_enter Tryz.func33, Tryz.ntmps33
  go_wp2_with fail
  refine (specIsRat_any s _ hs).mono ?_
  rintro e w1 ⟨b, rfl, hR1, hb1⟩
  obtain ⟨k, hk, hi1⟩ := hR1
  obtain ⟨m, hm⟩ := isCut_ex t
  have HK := hidG hk
  have HM := hidG hm
  have HI1 := hidG hi1
  have HB1 := hidG hb1
  clear hk hm hi1 hb1
  cases b
  · have HF : Hid (RatAddRes s t ⟨#[]⟩) := ⟨k, m, HK.out, HM.out, .inr ⟨fun h => by obtain ⟨_, _, _, _, g, _⟩ := h; exact Bool.noConfusion (HI1.out.2 ⟨_, _, g⟩), rfl⟩⟩
    go_wp2
    go_ret
    exact ⟨_, rfl, HF.out, HB1.out⟩
  · go_wp2_with fail
    refine (specIsRat_any t _ ht).mono ?_
    rintro e w2 ⟨b, rfl, hR2, hb2⟩
    obtain ⟨m', hm', hi2⟩ := hR2
    obtain rfl := isCut_unique hm' HM.out
    have HI2 := hidG hi2
    have HB2 := hidG (HB1.out.trans (hb2.mono HB1.out.size))
    clear hm' hi2 hb2
    cases b
    · have HF : Hid (RatAddRes s t ⟨#[]⟩) := ⟨k, _, HK.out, HM.out, .inr ⟨fun h => by obtain ⟨_, _, _, _, _, g, _⟩ := h; exact Bool.noConfusion (HI2.out.2 ⟨_, _, g⟩), rfl⟩⟩
      go_wp2
      go_ret
      exact ⟨_, rfl, HF.out, HB2.out⟩
    · obtain ⟨x1, y1, hV1⟩ := HI1.out.1 (by first | exact rfl | trivial)
      obtain ⟨x2, y2, hV2⟩ := HI2.out.1 (by first | exact rfl | trivial)
      have HV1 := hidG hV1
      have HV2 := hidG hV2
      have hl1 := ratV_lt hV1
      have hl2 := ratV_lt hV2
      have HLL : Hid (x1.natAbs < lb 280 ∧ y1.natAbs < lb 280 ∧ x2.natAbs < lb 280 ∧ y2.natAbs < lb 280) := ⟨hl1.1, hl1.2.1, hl2.1, hl2.2.1⟩
      have HDEN : Hid (y1 * y2 ≠ 0) := by
        show y1 * y2 ≠ 0
        have h := Int.mul_pos hl1.2.2 hl2.2.2
        omega
      have HF : Hid (∀ p q u, IsLow (x1 * y2 + x2 * y1) (y1 * y2) p q → TextR p q u → RatAddRes s t u) := fun p q u h1 h2 => ⟨k, _, HK.out, HM.out, .inl ⟨x1, y1, x2, y2, p, q, hV1, hV2, trivial, h1, h2⟩⟩
      clear hV1 hV2 hl1 hl2
      go_wp2_with fail
      refine (l2Read_any s k x1 y1 _ hs HK.out HV1.out).mono ?_
      rintro e w3 ⟨z1, rfl, hz1, hb3⟩
      have HZ1 := hidG hz1
      have HB3 := hidG (HB2.out.trans (hb3.mono HB2.out.size))
      clear hz1 hb3
      go_wp2_with fail
      refine (l2Read_any t _ x2 y2 _ ht HM.out HV2.out).mono ?_
      rintro e w4 ⟨z2, rfl, hz2, hb4⟩
      have HZ1' : Hid (IsQN 0 w4 z1 x1 y1) := qn_zero (HZ1.out.below hb4)
      have HZ2 : Hid (IsQN 0 w4 z2 x2 y2) := qn_zero hz2
      have HB4 := hidG (HB3.out.trans (hb4.mono HB3.out.size))
      clear hz2 hb4
      go_wp2_with fail
      refine (l2Add_any 0 z1 z2 x1 y1 x2 y2 _ (Nat.zero_le _) HZ1'.out HZ2.out HLL.out HDEN.out).mono ?_
      rintro e w5 ⟨z5, p, q, rfl, hq, hlow, hb5⟩
      have HQ := hidG hq
      have HLOW := hidG hlow
      have HB5 := hidG (HB4.out.trans (hb5.mono HB4.out.size))
      clear hq hlow hb5
      go_wp2_with fail
      refine (l2Told_any 0 z5 p q _ (Nat.zero_le _) HQ.out).mono ?_
      rintro e w6 ⟨u, rfl, hu, hb6⟩
      have HE := hidG (HF.out _ _ _ HLOW.out hu)
      have HB6 := hidG (HB5.out.trans (hb6.mono HB5.out.size))
      clear hu hb6
      go_wp2
      go_ret
      exact ⟨_, rfl, HE.out, HB6.out⟩
end Go.Proofs.YtpjnglcojamfmaaGreatDoor
