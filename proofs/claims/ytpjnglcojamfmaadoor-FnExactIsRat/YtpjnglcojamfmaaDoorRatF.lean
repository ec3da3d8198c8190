import Derived.Test.YtpjnglcojamfmaaDoorK1
namespace Go.Proofs.YtpjnglcojamfmaaDoor
open Go.ChangeShapes Go.WideShapes Go.ChangeAt Go.RowKit
theorem cutP_size (s : ByteArray) (k : Option Nat) : (cutP s k).size ≤ s.size := by
  cases k with
  | none => exact Nat.le_refl _
  | some i => show (s.extract 0 i).size ≤ s.size; rw [ByteArray.size_extract]; omega
theorem cutQ_size (s : ByteArray) (k : Option Nat) : (cutQ s k).size ≤ s.size := by
  cases k with
  | none => exact Nat.zero_le _
  | some i => show (s.extract (i + 1) s.size).size ≤ s.size; rw [ByteArray.size_extract]; omega
set_option maxRecDepth 100000 in
set_option maxHeartbeats 2000000 in
theorem readRational_any (s : ByteArray) (k : Option Nat) (w : World) (hs : s.size ≤ maxLen) (hk : IsCut s k) (hSP : SP w) (hNS : NS w) (hLT : LT w) :
    Calls Tryd.prog 14 #[.string s] w fun e w' => ∃ z ok, e = .returned (.tuple #[z, .bool ok]) ∧ ReadR w.heap.size w' s k z ok ∧ Below w.heap.size w w' := by
  have HK := hidG hk
  have HSP := hidG hSP
  have HNS := hidG hNS
  have HLT := hidG hLT
  clear hk hSP hNS hLT
  obtain ⟨p, hp⟩ : ∃ p, cutP s k = p := ⟨_, rfl⟩
  obtain ⟨q, hq⟩ : ∃ q, cutQ s k = q := ⟨_, rfl⟩
  obtain ⟨b, hb⟩ : ∃ b, k.isSome = b := ⟨_, rfl⟩
  have HP : Hid (cutP s k = p ∧ cutQ s k = q ∧ k.isSome = b) := ⟨hp, hq, hb⟩
  have hps : p.size ≤ maxLen := by rw [← hp]; exact Nat.le_trans (cutP_size s k) hs
  have hqs : q.size ≤ maxLen := by rw [← hq]; exact Nat.le_trans (cutQ_size s k) hs
  have HSZ : Hid (s.size ≤ maxLen ∧ p.size ≤ maxLen ∧ q.size ≤ maxLen) := ⟨hs, hps, hqs⟩
  clear hp hq hb hps hqs
  obtain ⟨W0, hW0⟩ : ∃ W0, w.alloc (.cells #[.bool false, .slice none 0 0, .bool false, .slice none 0 0] 35) = W0 := ⟨_, rfl⟩
  have HW0 := hidG hW0
  have HB0 : Hid (Below w.heap.size w W0) := by show Below w.heap.size w W0; rw [← hW0]; exact below_alloc _ _
  have hx1 : Bx W0 w.heap.size [.bool false, .slice none 0 0, .bool false, .slice none 0 0] := by rw [← hW0]; exact bx_new w _ _
  have HX : Hid (∀ W, Below W0.heap.size W0 W → Bx W w.heap.size [.bool false, .slice none 0 0, .bool false, .slice none 0 0]) := fun W hW => hx1.below hx1.lt hW
  clear hW0 hx1
  go_enter Tryd.func14, Tryd.ntmps14
  go_wp2_with fail
  rw [HW0.out]
  refine (cutForm_any s k _ HSZ.out.1 HK.out).mono ?_
  rintro e w1 ⟨rfl, hb1⟩
  rw [HP.out.1, HP.out.2.1, HP.out.2.2]
  obtain ⟨W2, hW2⟩ : ∃ W2, (w1.alloc (.cells #[.string p, .bool b, .string q] 53)).alloc (.cells #[.string p, .bool false, .string ⟨#[]⟩] 53) = W2 := ⟨_, rfl⟩
  have HW2 := hidG hW2
  have hB2' : Below w1.heap.size w1 W2 := by rw [← hW2]; exact below_al (below_alloc _ _) _
  have hf1 : Bx W2 w1.heap.size [.string p, .bool b, .string q] := by rw [← hW2]; exact (bx_new w1 _ _).alloc _
  have hf2 : Bx W2 (w1.heap.size + 1) [.string p, .bool false, .string ⟨#[]⟩] := by
    rw [← hW2]
    have h := bx_new (w1.alloc (.cells #[.string p, .bool b, .string q] 53)) [.string p, .bool false, .string ⟨#[]⟩] 53
    rw [World.size_alloc] at h
    exact h
  have HB2 : Hid (Below W0.heap.size W0 W2) := hb1.trans (hB2'.mono hb1.size)
  have HFX : Hid (∀ W, Below W2.heap.size W2 W → Bx W w1.heap.size [.string p, .bool b, .string q]) := fun W hW => hf1.below hf1.lt hW
  have hgr : w.heap.size < w1.heap.size := by have := hb1.size; have := (HX.out W0 (Below.refl _ _)).lt; omega
  clear hW2 hB2' hb1
  have k0 := hf1.cell 0
  have k1 := hf1.cell 1
  have k2 := hf1.cell 2
  have j0 := hf2.cell 0
  have j1 := hf2.cell 1
  have j2 := hf2.cell 2
  simp only [List.getElem?_cons_zero, List.getElem?_cons_succ] at k0 k1 k2 j0 j1 j2
  clear hf1 hf2
  go_upto_region 3 with fail
  rw [HW2.out]
  have HBW2 : Hid (Below w.heap.size w W2) := HB0.out.trans (HB2.out.mono HB0.out.size)
  cases k with
  | none =>
    have hqE : ∀ W, (Op.equalIn 10000 53 (.agg #[.string p, .bool b, .string q]) (.agg #[.string p, .bool false, .string ⟨#[]⟩])).run Tryd.prog W = .ok true W := fun W => by
      rw [eqForm, ← HP.out.2.1, ← HP.out.2.2]
      have : (cutQ s none).toList = (⟨#[]⟩ : ByteArray).toList := rfl
      rw [this]
      simp
    have HPS : Hid (p = s) := HP.out.1.symm
    go_wp2_with fail
    refine (readInteger_any p _ HSZ.out.2.1).mono ?_
    rintro e w3 ⟨n, a, l, c, rfl, hI, hb3⟩
    have HI := hidG hI
    have HB3 := hidG hb3
    obtain ⟨ok, hok⟩ : ∃ ok, isIntB p = ok := ⟨_, rfl⟩
    have HOK := hidG hok
    rw [hok]
    clear hI hb3 hok k0 k1 k2 j0 j1 j2 hqE
    go_wp2_with fail
    refine (wholeRational_any n a l c _).mono ?_
    rintro e w4 ⟨s2, p2, l2, c2, rfl, hone, hb4⟩
    have hb34 : Below w3.heap.size w3 w4 := (below_alloc w3 _).trans (hb4.mono (by simp))
    have HB4 : Hid (Below W2.heap.size W2 w4) := HB3.out.trans (hb34.mono HB3.out.size)
    have HB04 : Hid (Below W0.heap.size W0 w4) := HB2.out.trans (HB4.out.mono HB2.out.size)
    have HONE : Hid (IsI w.heap.size w4 (.agg #[.bool s2, .slice p2 l2 c2]) 1 300) := hone.mono (by have := HBW2.out.size; have := HB3.out.size; simp; omega) (by omega)
    have HNUM : Hid (ok = true → IsI w.heap.size w4 (.agg #[.bool n, .slice a l c]) (numT s) 300) := fun e => by
      have hi : isIntB p = true := HOK.out.trans e
      obtain ⟨hn, hL⟩ := HI.out hi
      have h1 : IsI W2.heap.size w3 (.agg #[.bool n, .slice a l c]) (numT p) 280 := ⟨isNeg p, _, lim p, by rw [hn]; rfl, hL, trimL_trim _, rfl, lim_len' p hi⟩
      rw [HPS.out] at h1
      exact (h1.below hb34).mono HBW2.out.size (by omega)
    have hbw := HX.out w4 HB04.out
    have r0 := hbw.cell 0
    have r1 := hbw.cell 1
    have r2 := hbw.cell 2
    have r3 := hbw.cell 3
    simp only [List.getElem?_cons_zero, List.getElem?_cons_succ] at r0 r1 r2 r3
    have f0 := hbw.frozen 0
    have f1 := hbw.frozen 1
    have f2 := hbw.frozen 2
    have f3 := hbw.frozen 3
    clear hone hb4 hb34 hbw
    go_wp2
    have hbw := HX.out w4 HB04.out
    have hnR : NoInt w4 w.heap.size := noInt_of hbw (by simp)
    have hE := set4 (HB0.out.trans (HB04.out.mono HB0.out.size)) w.heap.size (Nat.le_refl _) (.bool n) (.slice a l c) (.bool s2) (.slice p2 l2 c2)
    have h1 := HONE.out.put4 hnR (.bool n) (.slice a l c) (.bool s2) (.slice p2 l2 c2)
    have h2 := fun e => (HNUM.out e).put4 hnR (.bool n) (.slice a l c) (.bool s2) (.slice p2 l2 c2)
    have hZ : Bx ((((w4.setCell ⟨w.heap.size, 0, none⟩ (.bool n)).setCell ⟨w.heap.size, 1, none⟩ (.slice a l c)).setCell ⟨w.heap.size, 2, none⟩ (.bool s2)).setCell ⟨w.heap.size, 3, none⟩ (.slice p2 l2 c2)) w.heap.size [.bool n, .slice a l c, .bool s2, .slice p2 l2 c2] := (((hbw.set 0 _).set 1 _).set 2 _).set 3 _
    generalize (((w4.setCell ⟨w.heap.size, 0, none⟩ (.bool n)).setCell ⟨w.heap.size, 1, none⟩ (.slice a l c)).setCell ⟨w.heap.size, 2, none⟩ (.bool s2)).setCell ⟨w.heap.size, 3, none⟩ (.slice p2 l2 c2) = WE at *
    have m0 := hZ.cell 0
    have m1 := hZ.cell 1
    have m2 := hZ.cell 2
    have m3 := hZ.cell 3
    simp only [List.getElem?_cons_zero, List.getElem?_cons_succ] at m0 m1 m2 m3
    have hRR : ReadR w.heap.size WE s none (.agg #[.bool n, .slice a l c, .bool s2, .slice p2 l2 c2]) ok := by
      have hio : isIntB s = ok := by rw [← HPS.out]; exact HOK.out
      refine ⟨⟨n, a, l, c, s2, p2, l2, c2, rfl⟩, ?_, ?_⟩
      · constructor
        · intro e; exact ⟨numT s, 1, hio.trans e, rfl, rfl⟩
        · rintro ⟨x, y, h, _⟩; rw [← hio]; exact h
      · intro e
        exact ⟨numT s, 1, ⟨hio.trans e, rfl, rfl⟩, n, _, s2, _, rfl, h2 e, h1⟩
    refine bodyPost_ret (v := .tuple #[.agg #[.bool n, .slice a l c, .bool s2, .slice p2 l2 c2], .bool ok]) ?_ rfl ⟨_, ok, rfl, hRR, hE⟩
    simp [results, Tryd.results14, go_sem, m0, m1, m2, m3]
  | some i =>
    have hqE : ∀ W, (Op.equalIn 10000 53 (.agg #[.string p, .bool b, .string q]) (.agg #[.string p, .bool false, .string ⟨#[]⟩])).run Tryd.prog W = .ok false W := fun W => by
      rw [eqForm, ← HP.out.2.2]
      simp
    go_wp2_with fail
    refine (readPair_any p q _ HSZ.out.2.1 HSZ.out.2.2).mono ?_
    rintro e w3 ⟨n1, a1, l1, c1, n2, a2, l2, c2, rfl, hI1, hI2, hb3⟩
    have HI1 := hidG hI1
    have HI2 := hidG hI2
    have HB3 := hidG hb3
    obtain ⟨ok, hok⟩ : ∃ ok, (isIntB p && isIntB q) = ok := ⟨_, rfl⟩
    have HOK := hidG hok
    rw [hok]
    clear hI1 hI2 hb3 hok j0 j1 j2 hqE
    obtain ⟨W4, hW4⟩ : ∃ W4, (w3.alloc (.cells #[.bool n1, .slice a1 l1 c1] 33)).alloc (.cells #[.bool n2, .slice a2 l2 c2] 33) = W4 := ⟨_, rfl⟩
    have HW4 := hidG hW4
    have hB4 : Below w3.heap.size w3 W4 := by rw [← hW4]; exact below_al (below_alloc _ _) _
    have hn1 : Bx W4 w3.heap.size [.bool n1, .slice a1 l1 c1] := by rw [← hW4]; exact (bx_new w3 _ _).alloc _
    have hn2 : Bx W4 (w3.heap.size + 1) [.bool n2, .slice a2 l2 c2] := by
      rw [← hW4]
      have h := bx_new (w3.alloc (.cells #[.bool n1, .slice a1 l1 c1] 33)) [.bool n2, .slice a2 l2 c2] 33
      rw [World.size_alloc] at h
      exact h
    have HN : Hid (∀ W, Below W4.heap.size W4 W → Bx W w3.heap.size [.bool n1, .slice a1 l1 c1] ∧ Bx W (w3.heap.size + 1) [.bool n2, .slice a2 l2 c2]) := fun W hW => ⟨hn1.below hn1.lt hW, hn2.below hn2.lt hW⟩
    have HB34 := hidG hB4
    have HB04 : Hid (Below W0.heap.size W0 W4) := HB2.out.trans ((HB3.out.trans (hB4.mono HB3.out.size)).mono HB2.out.size)
    have HB24 : Hid (Below W2.heap.size W2 W4) := HB3.out.trans (hB4.mono HB3.out.size)
    have d0 := hn2.cell 0
    have d1 := hn2.cell 1
    simp only [List.getElem?_cons_zero, List.getElem?_cons_succ] at d0 d1
    clear hW4 hB4 hn1 hn2
    go_upto_region 7 with fail
    rw [HW4.out]
    clear k0 k1 k2
    cases ok
    · have HNO : Hid (∀ x y, ¬ RatV s (some i) x y) := fun x y h => by
        have h1 := h.1.1
        have h2 := h.1.2
        rw [HP.out.1] at h1
        rw [HP.out.2.1] at h2
        have := HOK.out
        rw [h1, h2] at this
        cases this
      have hbw := HX.out W4 HB04.out
      have r0 := hbw.cell 0
      have r1 := hbw.cell 1
      have r2 := hbw.cell 2
      have r3 := hbw.cell 3
      simp only [List.getElem?_cons_zero, List.getElem?_cons_succ] at r0 r1 r2 r3
      have f0 := hbw.frozen 0
      have f1 := hbw.frozen 1
      have f2 := hbw.frozen 2
      have f3 := hbw.frozen 3
      clear hbw
      go_wp2
      have hbw := HX.out W4 HB04.out
      have hE := set4 (HB0.out.trans (HB04.out.mono HB0.out.size)) w.heap.size (Nat.le_refl _) (.bool false) (.slice none 0 0) (.bool false) (.slice none 0 0)
      have hZ : Bx ((((W4.setCell ⟨w.heap.size, 0, none⟩ (.bool false)).setCell ⟨w.heap.size, 1, none⟩ (.slice none 0 0)).setCell ⟨w.heap.size, 2, none⟩ (.bool false)).setCell ⟨w.heap.size, 3, none⟩ (.slice none 0 0)) w.heap.size [.bool false, .slice none 0 0, .bool false, .slice none 0 0] := (((hbw.set 0 _).set 1 _).set 2 _).set 3 _
      generalize (((W4.setCell ⟨w.heap.size, 0, none⟩ (.bool false)).setCell ⟨w.heap.size, 1, none⟩ (.slice none 0 0)).setCell ⟨w.heap.size, 2, none⟩ (.bool false)).setCell ⟨w.heap.size, 3, none⟩ (.slice none 0 0) = WE at *
      have m0 := hZ.cell 0
      have m1 := hZ.cell 1
      have m2 := hZ.cell 2
      have m3 := hZ.cell 3
      simp only [List.getElem?_cons_zero, List.getElem?_cons_succ] at m0 m1 m2 m3
      refine bodyPost_ret (v := .tuple #[.agg #[.bool false, .slice none 0 0, .bool false, .slice none 0 0], .bool false]) ?_ rfl ⟨_, false, rfl, ⟨⟨false, none, 0, 0, false, none, 0, 0, rfl⟩, ⟨(fun e => by cases e), fun ⟨x, y, h⟩ => (HNO.out x y h).elim⟩, (fun e => by cases e)⟩, hE⟩
      simp [results, Tryd.results14, go_sem, m0, m1, m2, m3]
    · have HII : Hid (isIntB p = true ∧ isIntB q = true) := by
        show isIntB p = true ∧ isIntB q = true
        have := HOK.out
        simpa using this
      go_wp2_with fail
      refine (isZero_any _ _ _ _ _).mono ?_
      rintro e w5 ⟨rfl, hw5⟩
      have HB45 : Hid (Below W4.heap.size W4 w5) := by show Below W4.heap.size W4 w5; rw [hw5]; exact below_alloc _ _
      have HB05 : Hid (Below W0.heap.size W0 w5) := HB04.out.trans (HB45.out.mono HB04.out.size)
      have hl2 : l2 = (lim q).length := by
        obtain ⟨_, hL⟩ := HI2.out HII.out.2
        obtain ⟨_, _, e, _⟩ := hL
        simp only [Value.slice.injEq] at e
        exact e.2.1
      have HL2 := hidG hl2
      clear hw5 hl2 d0 d1
      by_cases hz : l2 = 0
      · have z : ((l2 : Int) == 0) = true := by rw [beq_iff_eq]; omega
        have HNO : Hid (∀ x y, ¬ RatV s (some i) x y) := fun x y h => by
          have h1 := h.2.1.1
          rw [HP.out.2.1] at h1
          exact h1 ((sg_zero_iff _ _ (trimL_trim _)).2 (List.eq_nil_of_length_eq_zero (HL2.out.symm.trans hz)))
        rw [z]
        have hbw := HX.out w5 HB05.out
        have r0 := hbw.cell 0
        have r1 := hbw.cell 1
        have r2 := hbw.cell 2
        have r3 := hbw.cell 3
        simp only [List.getElem?_cons_zero, List.getElem?_cons_succ] at r0 r1 r2 r3
        have f0 := hbw.frozen 0
        have f1 := hbw.frozen 1
        have f2 := hbw.frozen 2
        have f3 := hbw.frozen 3
        clear hbw
        go_wp2
        have hbw := HX.out w5 HB05.out
        have hE := set4 (HB0.out.trans (HB05.out.mono HB0.out.size)) w.heap.size (Nat.le_refl _) (.bool false) (.slice none 0 0) (.bool false) (.slice none 0 0)
        have hZ : Bx ((((w5.setCell ⟨w.heap.size, 0, none⟩ (.bool false)).setCell ⟨w.heap.size, 1, none⟩ (.slice none 0 0)).setCell ⟨w.heap.size, 2, none⟩ (.bool false)).setCell ⟨w.heap.size, 3, none⟩ (.slice none 0 0)) w.heap.size [.bool false, .slice none 0 0, .bool false, .slice none 0 0] := (((hbw.set 0 _).set 1 _).set 2 _).set 3 _
        generalize (((w5.setCell ⟨w.heap.size, 0, none⟩ (.bool false)).setCell ⟨w.heap.size, 1, none⟩ (.slice none 0 0)).setCell ⟨w.heap.size, 2, none⟩ (.bool false)).setCell ⟨w.heap.size, 3, none⟩ (.slice none 0 0) = WE at *
        have m0 := hZ.cell 0
        have m1 := hZ.cell 1
        have m2 := hZ.cell 2
        have m3 := hZ.cell 3
        simp only [List.getElem?_cons_zero, List.getElem?_cons_succ] at m0 m1 m2 m3
        refine bodyPost_ret (v := .tuple #[.agg #[.bool false, .slice none 0 0, .bool false, .slice none 0 0], .bool false]) ?_ rfl ⟨_, false, rfl, ⟨⟨false, none, 0, 0, false, none, 0, 0, rfl⟩, ⟨(fun e => by cases e), fun ⟨x, y, h⟩ => (HNO.out x y h).elim⟩, (fun e => by cases e)⟩, hE⟩
        simp [results, Tryd.results14, go_sem, m0, m1, m2, m3]
      · have z : ((l2 : Int) == 0) = false := by rw [beq_eq_false_iff_ne]; omega
        rw [z]
        have hx5 := HN.out w5 HB45.out
        have d0 := hx5.1.cell 0
        have d1 := hx5.1.cell 1
        have d2 := hx5.2.cell 0
        have d3 := hx5.2.cell 1
        simp only [List.getElem?_cons_zero, List.getElem?_cons_succ] at d0 d1 d2 d3
        clear hx5
        have HB25 : Hid (Below W2.heap.size W2 w5) := HB24.out.trans (HB45.out.mono HB24.out.size)
        have HBW5 : Hid (Below w.heap.size w w5) := HBW2.out.trans (HB25.out.mono HBW2.out.size)
        have hb35 : Below w3.heap.size w3 w5 := HB34.out.trans (HB45.out.mono HB34.out.size)
        have HNUM : Hid (IsI w.heap.size w5 (.agg #[.bool n1, .slice a1 l1 c1]) (numT p) 280) := by
          obtain ⟨hn, hL⟩ := HI1.out HII.out.1
          have h1 : IsI W2.heap.size w3 (.agg #[.bool n1, .slice a1 l1 c1]) (numT p) 280 := ⟨isNeg p, _, lim p, by rw [hn]; rfl, hL, trimL_trim _, rfl, lim_len' p HII.out.1⟩
          exact (h1.below hb35).mono HBW2.out.size (Nat.le_refl _)
        have HDEN : Hid (IsI w.heap.size w5 (.agg #[.bool n2, .slice a2 l2 c2]) (numT q) 280) := by
          obtain ⟨hn, hL⟩ := HI2.out HII.out.2
          have h1 : IsI W2.heap.size w3 (.agg #[.bool n2, .slice a2 l2 c2]) (numT q) 280 := ⟨isNeg q, _, lim q, by rw [hn]; rfl, hL, trimL_trim _, rfl, lim_len' q HII.out.2⟩
          exact (h1.below hb35).mono HBW2.out.size (Nat.le_refl _)
        have HNZ : Hid (numT q ≠ 0) := fun h => hz (by
          have h2 : lim q = [] := (sg_zero_iff _ _ (trimL_trim _)).1 h
          rw [HL2.out, h2]; rfl)
        clear hb35
        go_wp2_with fail
        refine (makeRational_any w.heap.size _ _ (numT p) (numT q) 280 _ HBW5.out.size HNUM.out HDEN.out HNZ.out (by omega) (HSP.out.below HBW5.out) (HNS.out.below HBW5.out)).mono ?_
        rintro e w6 ⟨z, xn, xd, rfl, hR, hlow, hb6⟩
        have HLOW := hidG hlow
        obtain ⟨s5, p5, l5, c5, s6, p6, l6, c6, rfl, _, _⟩ := hR.shape
        obtain ⟨W7, hW7⟩ : ∃ W7, w6.alloc (.cells #[.bool s5, .slice p5 l5 c5, .bool s6, .slice p6 l6 c6] 35) = W7 := ⟨_, rfl⟩
        have HW7 := hidG hW7
        have hb7 : Below w6.heap.size w6 W7 := by rw [← hW7]; exact below_alloc _ _
        have hxb : Bx W7 w6.heap.size [.bool s5, .slice p5 l5 c5, .bool s6, .slice p6 l6 c6] := by rw [← hW7]; exact bx_new w6 _ _
        have HR7 : Hid (∀ W, Below W7.heap.size W7 W → IsQR w.heap.size W (.agg #[.bool s5, .slice p5 l5 c5, .bool s6, .slice p6 l6 c6]) xn xd 283) := fun W hW => (hR.below hb7).below hW
        have HX7 : Hid (∀ W, Below W7.heap.size W7 W → Bx W w6.heap.size [.bool s5, .slice p5 l5 c5, .bool s6, .slice p6 l6 c6]) := fun W hW => hxb.below hxb.lt hW
        have hb57 : Below w5.heap.size w5 W7 := hb6.trans (hb7.mono hb6.size)
        have HB27 : Hid (Below W2.heap.size W2 W7) := HB25.out.trans (hb57.mono HB25.out.size)
        have HB07 : Hid (Below W0.heap.size W0 W7) := HB2.out.trans (HB27.out.mono HB2.out.size)
        have HBW7 : Hid (Below w.heap.size w W7) := HB0.out.trans (HB07.out.mono HB0.out.size)
        have e0 := hxb.cell 0
        have e1 := hxb.cell 1
        have e2 := hxb.cell 2
        have e3 := hxb.cell 3
        have hfm := HFX.out W7 HB27.out
        have k0 := hfm.cell 0
        have k1 := hfm.cell 1
        have k2 := hfm.cell 2
        simp only [List.getElem?_cons_zero, List.getElem?_cons_succ] at e0 e1 e2 e3 k0 k1 k2
        clear hR hlow hb6 hW7 hb7 hxb hb57 hfm d0 d1 d2 d3
        go_upto_region 10 with fail
        rw [HW7.out]
        go_region_with (first
          | (go_at_call 28
             refine (form_any w.heap.size _ xn xd 283 W7.drew HBW7.out.size (HR7.out _ (Below.refl _ W7).drew) (by omega) (HSP.out.below (HBW7.out.trans ((Below.refl _ W7).drew.mono HBW7.out.size))) (HLT.out.below (HBW7.out.trans ((Below.refl _ W7).drew.mono HBW7.out.size)))).mono ?_
             rintro e w8 ⟨r, rfl, hfo, hb8⟩
             obtain ⟨u, v, bb, rfl, hu, hv⟩ := hfo
             have HB8 : Hid (Below W7.heap.size W7 w8) := (Below.refl _ W7).drew.trans hb8
             have HUV : Hid (IsText xn u ∧ (if xd = 1 then bb = false ∧ v = ⟨#[]⟩ else bb = true ∧ IsText xd v)) := ⟨hu, hv⟩
             obtain ⟨ok, hok⟩ : ∃ ok, (u.toList == p.toList && bb == b && v.toList == q.toList) = ok := ⟨_, rfl⟩
             have HOKV := hidG hok
             have hqE : ∀ W, (Op.equalIn 10000 53 (.agg #[.string u, .bool bb, .string v]) (.agg #[.string p, .bool b, .string q])).run Tryd.prog W = .ok ok W := fun W => by rw [eqForm, hok]
             have hX8 := HX7.out w8 HB8.out
             have g0 := hX8.cell 0
             have g1 := hX8.cell 1
             have g2 := hX8.cell 2
             have g3 := hX8.cell 3
             have hF8 := HFX.out w8 (HB27.out.trans (HB8.out.mono HB27.out.size))
             have q0 := hF8.cell 0
             have q1 := hF8.cell 1
             have q2 := hF8.cell 2
             have hbw := HX.out w8 (HB07.out.trans (HB8.out.mono HB07.out.size))
             have r0 := hbw.cell 0
             have r1 := hbw.cell 1
             have r2 := hbw.cell 2
             have r3 := hbw.cell 3
             simp only [List.getElem?_cons_zero, List.getElem?_cons_succ] at g0 g1 g2 g3 q0 q1 q2 r0 r1 r2 r3
             have f0 := hbw.frozen 0
             have f1 := hbw.frozen 1
             have f2 := hbw.frozen 2
             have f3 := hbw.frozen 3
             have ne1 : w.heap.size ≠ w1.heap.size := by omega
             clear hb8 hu hv hok hX8 hF8 hbw))
        all_goals
          try simp only [List.getElem_toArray, List.getElem_cons_succ, List.getElem_cons_zero, Act.put, List.setIfInBounds_toArray, List.set_cons_succ, List.set_cons_zero]
          go_wp2
          have hbw := HX.out w8 (HB07.out.trans (HB8.out.mono HB07.out.size))
          have hnR : NoInt w8 w.heap.size := noInt_of hbw (by simp)
          have hE := set4 (HBW7.out.trans (HB8.out.mono HBW7.out.size)) w.heap.size (Nat.le_refl _) (.bool s5) (.slice p5 l5 c5) (.bool s6) (.slice p6 l6 c6)
          have hR8 := (HR7.out w8 HB8.out).put4 hnR (.bool s5) (.slice p5 l5 c5) (.bool s6) (.slice p6 l6 c6)
          have hZ : Bx ((((w8.setCell ⟨w.heap.size, 0, none⟩ (.bool s5)).setCell ⟨w.heap.size, 1, none⟩ (.slice p5 l5 c5)).setCell ⟨w.heap.size, 2, none⟩ (.bool s6)).setCell ⟨w.heap.size, 3, none⟩ (.slice p6 l6 c6)) w.heap.size [.bool s5, .slice p5 l5 c5, .bool s6, .slice p6 l6 c6] := (((hbw.set 0 _).set 1 _).set 2 _).set 3 _
          generalize (((w8.setCell ⟨w.heap.size, 0, none⟩ (.bool s5)).setCell ⟨w.heap.size, 1, none⟩ (.slice p5 l5 c5)).setCell ⟨w.heap.size, 2, none⟩ (.bool s6)).setCell ⟨w.heap.size, 3, none⟩ (.slice p6 l6 c6) = WE at *
          have m0 := hZ.cell 0
          have m1 := hZ.cell 1
          have m2 := hZ.cell 2
          have m3 := hZ.cell 3
          simp only [List.getElem?_cons_zero, List.getElem?_cons_succ] at m0 m1 m2 m3
          refine bodyPost_ret (v := .tuple #[.agg #[.bool s5, .slice p5 l5 c5, .bool s6, .slice p6 l6 c6], .bool ok]) ?_ rfl ⟨_, ok, rfl, readR_of _ _ s p q u v i b bb ok _ xn xd HP.out HII.out HNZ.out HLOW.out HUV.out HOKV.out hR8, hE⟩
          simp [results, Tryd.results14, go_sem, m0, m1, m2, m3]
end Go.Proofs.YtpjnglcojamfmaaDoor
