import Derived.Test.YtebldkelihmihaaGreatDoorPlus
namespace Go.Proofs.YtebldkelihmihaaGreatDoor
open Go.ChangeShapes Go.WideShapes Go.ChangeAt Go.RowKit
theorem cmpL_ge (a b : List Nat) (ha : okL a) (hb : okL b) (ta : isTrim a) (tb : isTrim b) (hcm : 0 ≤ cmpL a b) : b.length ≤ a.length ∧ val b ≤ val a := by
  have h := cmpL_ord a b ha hb ta tb
  have h2 := hcm
  rw [h] at h2
  refine ⟨?_, ?_⟩
  · unfold cmpL at hcm
    by_cases h3 : a.length < b.length
    · simp [h3] at hcm <;> omega
    · by_cases h4 : b.length < a.length
      · simp [h3, h4] at hcm <;> omega
      · omega
  · unfold ord at h2
    split at h2 <;> (try split at h2) <;> omega
set_option maxRecDepth 100000 in
set_option maxHeartbeats 1000000 in
theorem plus_ge (B : Nat) (s s' : Bool) (va vb : Value) (a b : List Nat) (w : World) (ha : IsL B w va a) (hb : IsL B w vb b) (hne : a ≠ []) (hlb : b.length ≤ a.length ∧ val b ≤ val a) (hla : a.length ≤ 100000) (hSP : SP w) (hss : s' = !s) (hcm : 0 ≤ cmpL a b) :
    Calls Tryz.prog 80 #[.agg #[.bool s, va], .agg #[.bool s', vb]] w fun e w' => ∃ z, e = .returned z ∧ IsI w.heap.size w' z (sg s (val a) + sg s' (val b)) (a.length + b.length + 1) ∧ Below w.heap.size w w' := by
  obtain ⟨pa, ca, rfl, _⟩ := id ha
  obtain ⟨pb, cb, rfl, _⟩ := id hb
  have HX := boxI_first w s pa a.length ca s' pb b.length cb 82
  obtain ⟨W0, hW0⟩ : ∃ W0, (((w.alloc (.cells #[.bool s, .slice pa a.length ca] 82)).alloc (.cells #[.bool s', .slice pb b.length cb] 82)).alloc (.cells #[.bool false, .slice none 0 0] 82)) = W0 := ⟨_, rfl⟩
  have HW0 := hide hW0
  have hB0 : Below w.heap.size w W0 := by rw [← hW0]; exact below_al (below_al (below_alloc _ _) _) _
  have HB0 := hide hB0
  have hsz : W0.heap.size = w.heap.size + 3 := by rw [← hW0]; simp
  rw [hW0] at HX
  have HS := hide hsz
  have HBX : Hid (∀ W, Below W0.heap.size W0 W → BoxI w.heap.size W s pa a.length ca s' pb b.length cb) := fun W hW => HX.below (by omega) hW
  have HA : Hid (∀ W, Below W0.heap.size W0 W → IsL B W (.slice pa a.length ca) a) := fun W hW => (ha.below hB0).below hW
  have HB : Hid (∀ W, Below W0.heap.size W0 W → IsL B W (.slice pb b.length cb) b) := fun W hW => (hb.below hB0).below hW
  have HSP : Hid (SP W0) := hSP.below hB0
  have HLA : Hid (a ≠ [] ∧ a.length ≤ 100000 ∧ b.length ≤ a.length ∧ val b ≤ val a) := ⟨hne, hla, hlb⟩
  obtain ⟨a0, a1, b0, b1, r0, r1, f⟩ := HX
  clear f hW0 hsz ha hb hB0 hla hlb hSP hne
  have HSG : Hid (sgSum s s' = 1) := by subst hss; cases s <;> rfl
  have HSS : Hid (s' = !s) := hss
  obtain ⟨c, hc⟩ : ∃ c, cmpL a b = c := ⟨_, rfl⟩
  have HC : Hid (cmpL a b = c) := hc
  have hcb : -1 ≤ c ∧ c ≤ 1 := by rw [← hc]; exact cmpL_bd a b
  obtain ⟨hc1, hc2⟩ := hcb
  rw [hc] at hcm
  clear hc hss
  have hfd := field_sum
  go_enter Tryz.func80, Tryz.ntmps80
  go_wp2_with fail
  rw [HW0.out]
  refine (signsOf_any _ _ _ _ _ _ _ _ _ HSP.out).mono ?_
  rintro e ws ⟨rfl, hbs⟩
  rw [HSG.out]
  have HBS := hide hbs
  clear a0 a1 b0 b1 r0 r1 hbs
  obtain ⟨a0, a1, b0, b1, r0, r1, f⟩ := HBX.out ws HBS.out
  clear f
  go_wp2_with fail
  refine (compareLimbs_any B _ _ a b _ (HA.out _ HBS.out) (HB.out _ HBS.out)).mono ?_
  rintro e wk ⟨rfl, hbk⟩
  rw [HC.out]
  have HBK : Hid (Below W0.heap.size W0 wk) := HBS.out.trans (hbk.mono HBS.out.size)
  clear hbk a0 a1 b0 b1 r0 r1
  obtain ⟨a0, a1, b0, b1, r0, r1, f⟩ := HBX.out wk HBK.out
  have f0 := f 2 (by omega) 0
  have f1 := f 2 (by omega) 1
  clear f
  go_wp2_with fail
  go_region_with (first
    | (go_at_call 107; refine (subLimbs_any B _ _ a b _ (HA.out _ ?_) (HB.out _ ?_) HLA.out.1 HLA.out.2.1 HLA.out.2.2.1 HLA.out.2.2.2).mono ?_
       · exact HBK.out.drew
       · exact HBK.out.drew
       rintro e wd ⟨v, L, rfl, hL, hval, hlen, htr, hbd⟩
       have HBD : Hid (Below W0.heap.size W0 wd) := HBK.out.drew.trans (hbd.mono HBK.out.size)
       have HL : Hid (IsL (w.heap.size + 3) wd v L) := hL.mono (by have := HBK.out.size; have := HS.out; show w.heap.size + 3 ≤ wk.heap.size; omega)
       have HV : Hid (val L + val b = val a ∧ L.length ≤ a.length + b.length + 1) := ⟨hval, by omega⟩
       obtain ⟨c0, c1, d0, d1, s0, s1, g⟩ := HBX.out wd HBD.out
       have g0 := g 2 (by omega) 0
       have g1 := g 2 (by omega) 1
       obtain ⟨pv, cv, hv, _⟩ := hL
       subst hv
       clear hval hlen htr hbd g)
    | (go_at_call 79; refine (makeInteger_any _ s _ L _ HL.out).mono ?_
       rintro e we ⟨v', rfl, hcut, hbe⟩
       have HBE : Hid (Below W0.heap.size W0 we) := HBD.out.trans (hbe.mono HBD.out.size)
       have HLE : Hid (IsL (w.heap.size + 3) we v' (trimL L)) := (hcut _ _ HL.out).below hbe
       obtain ⟨c0, c1, d0, d1, s0, s1, g⟩ := HBX.out we HBE.out
       have g0 := g 2 (by omega) 0
       have g1 := g 2 (by omega) 1
       obtain ⟨pw, cw, hw, _⟩ := HLE.out
       subst hw
       clear hcut hbe g))
  all_goals
    try simp only [List.getElem_toArray, List.getElem_cons_succ, List.getElem_cons_zero, Act.put, List.setIfInBounds_toArray, List.set_cons_succ, List.set_cons_zero]
    go_wp2
    have HF : Hid (Below w.heap.size w we) := HB0.out.trans (HBE.out.mono (by have := HS.out; omega))
    refine bodyPost_ret ?_ rfl ⟨_, rfl, ⟨s, _, trimL L, rfl, ((HLE.out.setCell _ _ (by simp)).setCell _ _ (by simp)).mono (by omega), trimL_trim _, by rw [val_trimL, HSS.out, sg_sub s _ _ _ HV.out.1], by have := trimL_len L; have := HV.out.2; omega⟩, (HF.out.setCell (by simp; omega) _).setCell (by simp; omega) _⟩
    simp [results, Tryz.results80, go_sem, s0, s1]
theorem cmpL_lt' (a b : List Nat) (ha : okL a) (hb : okL b) (ta : isTrim a) (tb : isTrim b) (hcm : cmpL a b < 0) : a.length ≤ b.length ∧ val a ≤ val b := by
  have h := cmpL_ord a b ha hb ta tb
  have h2 := hcm
  rw [h] at h2
  refine ⟨?_, ?_⟩
  · unfold cmpL at hcm
    by_cases h3 : a.length < b.length
    · omega
    · by_cases h4 : b.length < a.length
      · simp [h3, h4] at hcm <;> omega
      · omega
  · unfold ord at h2
    split at h2 <;> (try split at h2) <;> omega
theorem BoxI.swap {g : Nat} {W : World} {x : Bool} {pa : Option Addr} {la ca : Nat} {y : Bool} {pb : Option Addr} {lb cb : Nat} (h : BoxI g W x pa la ca y pb lb cb) :
    BoxI g ((((W.setCell ⟨g, 0, none⟩ (.bool y)).setCell ⟨g, 1, none⟩ (.slice pb lb cb)).setCell ⟨g + 1, 0, none⟩ (.bool x)).setCell ⟨g + 1, 1, none⟩ (.slice pa la ca)) y pb lb cb x pa la ca := by
  obtain ⟨a0, a1, b0, b1, r0, r1, f⟩ := h
  refine ⟨?_, ?_, ?_, ?_, ?_, ?_, fun k hk i => ?_⟩
  · simp [go_sem, a0]
  · simp [go_sem, a1]
  · simp [go_sem, b0]
  · simp [go_sem, b1]
  · simp [go_sem, r0]
  · simp [go_sem, r1]
  · have := f k hk i
    simp [go_sem, this]
set_option maxRecDepth 100000 in
set_option maxHeartbeats 1000000 in
theorem plus_lt (B : Nat) (s s' : Bool) (va vb : Value) (a b : List Nat) (w : World) (ha : IsL B w va a) (hb : IsL B w vb b) (hne : b ≠ []) (hlb : a.length ≤ b.length ∧ val a ≤ val b) (hla : b.length ≤ 100000) (hSP : SP w) (hss : s' = !s) (hcm : cmpL a b < 0) :
    Calls Tryz.prog 80 #[.agg #[.bool s, va], .agg #[.bool s', vb]] w fun e w' => ∃ z, e = .returned z ∧ IsI w.heap.size w' z (sg s (val a) + sg s' (val b)) (a.length + b.length + 1) ∧ Below w.heap.size w w' := by
  obtain ⟨pa, ca, rfl, _⟩ := id ha
  obtain ⟨pb, cb, rfl, _⟩ := id hb
  have HX := boxI_first w s pa a.length ca s' pb b.length cb 82
  obtain ⟨W0, hW0⟩ : ∃ W0, (((w.alloc (.cells #[.bool s, .slice pa a.length ca] 82)).alloc (.cells #[.bool s', .slice pb b.length cb] 82)).alloc (.cells #[.bool false, .slice none 0 0] 82)) = W0 := ⟨_, rfl⟩
  have HW0 := hide hW0
  have hB0 : Below w.heap.size w W0 := by rw [← hW0]; exact below_al (below_al (below_alloc _ _) _) _
  have HB0 := hide hB0
  have hsz : W0.heap.size = w.heap.size + 3 := by rw [← hW0]; simp
  rw [hW0] at HX
  have HS := hide hsz
  have HBX : Hid (∀ W, Below W0.heap.size W0 W → BoxI w.heap.size W s pa a.length ca s' pb b.length cb) := fun W hW => HX.below (by omega) hW
  have HA : Hid (∀ W, Below w.heap.size w W → IsL B W (.slice pa a.length ca) a) := fun W hW => ha.below hW
  have HB : Hid (∀ W, Below w.heap.size w W → IsL B W (.slice pb b.length cb) b) := fun W hW => hb.below hW
  have HSP : Hid (SP W0) := hSP.below hB0
  have HLA : Hid (b ≠ [] ∧ b.length ≤ 100000 ∧ a.length ≤ b.length ∧ val a ≤ val b) := ⟨hne, hla, hlb⟩
  obtain ⟨a0, a1, b0, b1, r0, r1, f⟩ := HX
  clear f hW0 hsz ha hb hB0 hla hlb hSP hne
  have HSG : Hid (sgSum s s' = 1) := by subst hss; cases s <;> rfl
  have HSS : Hid (s' = !s) := hss
  obtain ⟨c, hc⟩ : ∃ c, cmpL a b = c := ⟨_, rfl⟩
  have HC : Hid (cmpL a b = c) := hc
  have hcb : -1 ≤ c ∧ c ≤ 1 := by rw [← hc]; exact cmpL_bd a b
  obtain ⟨hc1, hc2⟩ := hcb
  rw [hc] at hcm
  clear hc hss
  have hfd := field_sum
  go_enter Tryz.func80, Tryz.ntmps80
  go_wp2_with fail
  rw [HW0.out]
  refine (signsOf_any _ _ _ _ _ _ _ _ _ HSP.out).mono ?_
  rintro e ws ⟨rfl, hbs⟩
  rw [HSG.out]
  have HBS := hide hbs
  clear a0 a1 b0 b1 r0 r1 hbs
  obtain ⟨a0, a1, b0, b1, r0, r1, f⟩ := HBX.out ws HBS.out
  clear f
  go_wp2_with fail
  refine (compareLimbs_any B _ _ a b _ (HA.out _ (HB0.out.trans (HBS.out.mono (by have := HS.out; omega)))) (HB.out _ (HB0.out.trans (HBS.out.mono (by have := HS.out; omega))))).mono ?_
  rintro e wk ⟨rfl, hbk⟩
  rw [HC.out]
  have HBK : Hid (Below W0.heap.size W0 wk) := HBS.out.trans (hbk.mono HBS.out.size)
  clear hbk a0 a1 b0 b1 r0 r1
  obtain ⟨a0, a1, b0, b1, r0, r1, f⟩ := HBX.out wk HBK.out
  have g0 : wk.frozen? ⟨w.heap.size, 0, none⟩ = false := f 0 (by omega) 0
  have g1 : wk.frozen? ⟨w.heap.size, 1, none⟩ = false := f 0 (by omega) 1
  have h0 := f 1 (by omega) 0
  have h1 := f 1 (by omega) 1
  have HX4 := BoxI.swap ⟨a0, a1, b0, b1, r0, r1, f⟩
  clear f
  go_wp2_with fail
  clear a0 a1 b0 b1 r0 r1 g0 g1 h0 h1
  obtain ⟨W4, hW4⟩ : ∃ W4, (((wk.setCell ⟨w.heap.size, 0, none⟩ (.bool s')).setCell ⟨w.heap.size, 1, none⟩ (.slice pb b.length cb)).setCell ⟨w.heap.size + 1, 0, none⟩ (.bool s)).setCell ⟨w.heap.size + 1, 1, none⟩ (.slice pa a.length ca) = W4 := ⟨_, rfl⟩
  have hs4 : W4.heap.size = wk.heap.size := by rw [← hW4]; simp
  have hb4 : Below w.heap.size w W4 := by
    rw [← hW4]
    exact ((((HB0.out.trans (HBK.out.mono (by have := HS.out; omega))).setCell (by simp) _).setCell (by simp) _).setCell (by simp) _).setCell (by simp) _
  rw [hW4] at HX4 ⊢
  have HBX4 : Hid (∀ W, Below W4.heap.size W4 W → BoxI w.heap.size W s' pb b.length cb s pa a.length ca) := fun W hW => HX4.below (by have := HBK.out.size; have := HS.out; omega) hW
  have HS4 : Hid (w.heap.size + 3 ≤ W4.heap.size) := by have := HBK.out.size; have := HS.out; show w.heap.size + 3 ≤ W4.heap.size; omega
  have HB4 : Hid (Below w.heap.size w W4) := hb4
  have HA4 : Hid (IsL B W4 (.slice pa a.length ca) a) := HA.out _ hb4
  have HBB4 : Hid (IsL B W4 (.slice pb b.length cb) b) := HB.out _ hb4
  obtain ⟨a0, a1, b0, b1, r0, r1, f⟩ := HX4
  have f0 := f 2 (by omega) 0
  have f1 := f 2 (by omega) 1
  clear f hW4 hs4 hb4 HBX HBS HBK
  go_region_with (first
    | (go_at_call 107; refine (subLimbs_any B _ _ b a _ (HBB4.out.below ?_) (HA4.out.below ?_) HLA.out.1 HLA.out.2.1 HLA.out.2.2.1 HLA.out.2.2.2).mono ?_
       · exact (Below.refl _ W4).drew
       · exact (Below.refl _ W4).drew
       rintro e wd ⟨v, L, rfl, hL, hval, hlen, htr, hbd⟩
       have HBD : Hid (Below W4.heap.size W4 wd) := (Below.refl _ W4).drew.trans (hbd.mono (Nat.le_refl _))
       have HL : Hid (IsL (w.heap.size + 3) wd v L) := hL.mono HS4.out
       have HV : Hid (val L + val a = val b ∧ L.length ≤ a.length + b.length + 1) := ⟨hval, by omega⟩
       obtain ⟨c0, c1, d0, d1, s0, s1, g⟩ := HBX4.out wd HBD.out
       have g0 := g 2 (by omega) 0
       have g1 := g 2 (by omega) 1
       obtain ⟨pv, cv, hv, _⟩ := hL
       subst hv
       clear hval hlen htr hbd g)
    | (go_at_call 79; refine (makeInteger_any _ s' _ L _ HL.out).mono ?_
       rintro e we ⟨v', rfl, hcut, hbe⟩
       have HBE : Hid (Below W4.heap.size W4 we) := HBD.out.trans (hbe.mono HBD.out.size)
       have HLE : Hid (IsL (w.heap.size + 3) we v' (trimL L)) := (hcut _ _ HL.out).below hbe
       obtain ⟨c0, c1, d0, d1, s0, s1, g⟩ := HBX4.out we HBE.out
       have g0 := g 2 (by omega) 0
       have g1 := g 2 (by omega) 1
       obtain ⟨pw, cw, hw, _⟩ := HLE.out
       subst hw
       clear hcut hbe g))
  all_goals
    try simp only [List.getElem_toArray, List.getElem_cons_succ, List.getElem_cons_zero, Act.put, List.setIfInBounds_toArray, List.set_cons_succ, List.set_cons_zero]
    go_wp2
    have HF : Hid (Below w.heap.size w we) := HB4.out.trans (HBE.out.mono (by have := HS4.out; omega))
    refine bodyPost_ret ?_ rfl ⟨_, rfl, ⟨s', _, trimL L, rfl, ((HLE.out.setCell _ _ (by simp)).setCell _ _ (by simp)).mono (by omega), trimL_trim _, by rw [val_trimL, sg_sub s' _ _ _ HV.out.1, HSS.out, Bool.not_not, Int.add_comm], by have := trimL_len L; have := HV.out.2; omega⟩, (HF.out.setCell (by simp; omega) _).setCell (by simp; omega) _⟩
    simp [results, Tryz.results80, go_sem, s0, s1]
end Go.Proofs.YtebldkelihmihaaGreatDoor
