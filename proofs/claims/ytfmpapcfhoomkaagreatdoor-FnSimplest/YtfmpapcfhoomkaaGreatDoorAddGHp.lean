import Derived.Test.YtfmpapcfhoomkaaGreatDoorAddSp
namespace Go.Proofs.YtfmpapcfhoomkaaGreatDoor
open Go.ChangeShapes Go.WideShapes Go.ChangeAt Go.RowKit
set_option maxRecDepth 100000 in
set_option maxHeartbeats 4000000 in
theorem l1Add_ge (B : Nat) (x y : Int) (xn yn : Bool) (pa : Option Addr) (la ca : Nat) (pb : Option Addr) (lb cb : Nat) (na nb : Bool) (a b : List Nat) (w : World) (hBw : B ≤ w.heap.size) (hz : ((la : Int) == 0) = false ∨ ((la : Int) == 0) = true ∧ ((lb : Int) == 0) = false)
 (hza : IsZ B w (.agg #[.int .i64 x, .bool xn, .slice pa la ca]) na a) (hzb : IsZ B w (.agg #[.int .i64 y, .bool yn, .slice pb lb cb]) nb b) (s : Bool) (ha : ngZ x xn la = s) (hb : ngZ y yn lb = !s) (hla : a.length ≤ 1000000) (hlb : b.length ≤ 1000000) (hcm : 0 ≤ cmpL a b) :
 Calls Tryz.prog 44 #[.agg #[.int .i64 x, .bool xn, .slice pa la ca], .agg #[.int .i64 y, .bool yn, .slice pb lb cb]] w fun e w' => ∃ z, e = .returned z ∧ IsN w.heap.size w' z (sg s (val a) + sg (!s) (val b)) ∧ Up w w' := by
 have HNA := Hd ha; have HNB := Hd hb; have HLA : Hid (a.length ≤ 1000000 ∧ b.length ≤ 1000000) := ⟨hla, hlb⟩; have HLE : Hid (b.length ≤ a.length ∧ val b ≤ val a) := by
  have h := cmpL_ord a b hza.1 hzb.1 hza.2.1 hzb.2.1; have h2 := hcm; rw [h] at h2; refine ⟨?_, ?_⟩
  ·unfold cmpL at hcm
   by_cases h3 : a.length < b.length
   ·simp [h3] at hcm <;> omega
   by_cases h4 : b.length < a.length
   ·simp [h3, h4] at hcm <;> omega
   omega
  unfold ord at h2
  split at h2 <;> (try split at h2) <;> omega
 obtain ⟨c, hc⟩ := exW (cmpL a b); have HC := Hd hc; have hcb : -1 ≤ c ∧ c ≤ 1 := by rw [← hc]; exact cmpL_bd a b
 obtain ⟨hc1, hc2⟩ := hcb; rw [hc] at hcm; clear hc; have HX := boxes_first w x xn pa la ca y yn pb lb cb 54; obtain ⟨W0, hW0⟩ := exW (((w.alloc (.cells #[.int .i64 x, .bool xn, .slice pa la ca] 54)).alloc (.cells #[.int .i64 y, .bool yn, .slice pb lb cb] 54)).alloc (.cells #[.int .i64 0, .bool false, .slice none 0 0] 54)); have HW0 := Hd hW0; have hB0 : Up w W0 := by rw [← hW0]; exact below_al (below_al (below_alloc _ _) _) _
 have HB0 := Hd hB0; have hsz : W0.heap.size = w.heap.size + 3 := by rw [← hW0]; simp
 have hlt0 : w.heap.size < W0.heap.size := by omega
 have hlt1 : w.heap.size + 1 < W0.heap.size := by omega
 have hlt2 : w.heap.size + 2 < W0.heap.size := by omega
 rw [hW0] at HX; have HS := Hd hsz; have HBW := Hd hBw; have HBX : Hid (∀ W, Up W0 W → Boxes w.heap.size W x xn pa la ca y yn pb lb cb) := fun W hW => HX.below (by omega) hW; have HZA : Hid (∀ W, Up W0 W → IsZ B W (.agg #[.int .i64 x, .bool xn, .slice pa la ca]) na a) := fun W hW => (hza.below hB0).below hW; have HZB : Hid (∀ W, Up W0 W → IsZ B W (.agg #[.int .i64 y, .bool yn, .slice pb lb cb]) nb b) := fun W hW => (hzb.below hB0).below hW; obtain ⟨a0, a1, a2, b0, b1, b2, r0, r1, r2, f0, f1, f2⟩ := HX; clear hW0 hsz ha hb hza hzb hB0 hBw hla hlb; have HGO : Hid (∃ W1, Up W0 W1 ∧ ((((la : Int) == 0) = false ∧ W0.alloc (.cells #[.int .i64 x, .bool xn, .slice pa la ca] 54) = W1) ∨ (((la : Int) == 0) = true ∧ ((lb : Int) == 0) = false ∧ (W0.alloc (.cells #[.int .i64 x, .bool xn, .slice pa la ca] 54)).alloc (.cells #[.int .i64 y, .bool yn, .slice pb lb cb] 54) = W1))) := by
  rcases hz with h | ⟨h, h'⟩
  ·exact ⟨_, below_alloc _ _, .inl ⟨h, rfl⟩⟩
  exact ⟨_, below_al (below_alloc _ _) _, .inr ⟨h, h', rfl⟩⟩
 obtain ⟨W1, hBW1, hz1⟩ := HGO.o; have HBW1 := Hd hBW1; clear hz HGO hBW1
 go_enter Tryz.func44, Tryz.ntmps44
 go_wp2_with fail
 rw [HW0.o]; refine (l1IsSmall_ex _ _ _ _ _ _).mono ?_; rintro e w' ⟨rfl, rfl⟩
 rcases hz1 with ⟨hz, hW1⟩ | ⟨hz, hz', hW1⟩
 all_goals
  have HW1 := hide hW1; clear hW1
  go_wp2_with (go_at_call 92; refine (l1IsSmall_ex _ _ _ _ _ _).mono ?_; rintro e w' ⟨rfl, rfl⟩)
  rw [HW1.o]; clear a0 a1 a2 b0 b1 b2 r0 r1 r2 f0 f1 f2; obtain ⟨a0, a1, a2, b0, b1, b2, r0, r1, r2, f0, f1, f2⟩ := HBX.o W1 HBW1.o; refine (l1Limbs_any B _ na a _ (HZA.o _ HBW1.o) (by have := HBW1.o.size; have := HS.o; have := HBW.o; omega)).mono ?_; rintro e wa ⟨va, rfl, hva, hba⟩; have HVA := Hd hva; have HBA : Hid (Up W0 wa) := HBW1.o.trans (hba.mono HBW1.o.size); clear a0 a1 a2 b0 b1 b2 r0 r1 r2 f0 f1 f2 hva hba; obtain ⟨a0, a1, a2, b0, b1, b2, r0, r1, r2, f0, f1, f2⟩ := HBX.o wa HBA.o
  go_wp2_with fail
  refine (l1Limbs_any B _ nb b _ (HZB.o _ HBA.o) (by have := HBA.o.size; have := HS.o; have := HBW.o; omega)).mono ?_; rintro e wb ⟨vb, rfl, hvb, hbb⟩; have HVB := Hd hvb; have HVA2 : Hid (IsL B wb va a) := HVA.o.below hbb; have HBB : Hid (Up W0 wb) := HBA.o.trans (hbb.mono HBA.o.size); have hs0 : w.heap.size < wb.heap.size := by have := HBB.o.size; omega
  have hs1 : w.heap.size + 1 < wb.heap.size := by have := HBB.o.size; omega
  have hs2 : w.heap.size + 2 < wb.heap.size := by have := HBB.o.size; omega
  clear a0 a1 a2 b0 b1 b2 r0 r1 r2 f0 f1 f2 hvb hbb hlt0 hlt1 hlt2; obtain ⟨a0, a1, a2, b0, b1, b2, r0, r1, r2, f0, f1, f2⟩ := HBX.o wb HBB.o
  go_wp2_with fail
  go_region_with (first | (go_at_call_of 94 (Value.int IntKind.i64 x); refine (l1Neg_ex _ _ _ _ _ _).mono ?_; rintro e w' ⟨rfl, rfl⟩; rw [HNA.o]) | (go_at_call_of 94 (Value.int IntKind.i64 y); refine (l1Neg_ex _ _ _ _ _ _).mono ?_; rintro e w' ⟨rfl, rfl⟩; rw [HNB.o]))
  all_goals
   simp only [List.getElem_toArray, List.getElem_cons_succ, List.getElem_cons_zero, Act.put, List.setIfInBounds_toArray, List.set_cons_succ, List.set_cons_zero]
   go_wp2_with fail
   refine (l1CmpD_any B va vb a b _ (HVA2.o.below ?_) (HVB.o.below ?_)).mono ?_
   ·exact (below_al (below_alloc _ _) _).drew
   ·exact (below_al (below_alloc _ _) _).drew
   rintro e wk ⟨rfl, hbk⟩; rw [HC.o]; have hbk2 : Up wb wk := ((below_al (below_alloc wb (.cells #[.int .i64 x, .bool xn, .slice pa la ca] 54)) (.cells #[.int .i64 y, .bool yn, .slice pb lb cb] 54)).drew).trans (hbk.mono (by show wb.heap.size ≤ _; simp; omega)); have HBK := Hd hbk2; have HKK : Hid (Up W0 wk) := HBB.o.trans (hbk2.mono HBB.o.size); clear hbk hbk2 a0 a1 a2 b0 b1 b2 r0 r1 r2 f0 f1 f2 hs0 hs1 hs2; obtain ⟨a0, a1, a2, b0, b1, b2, r0, r1, r2, f0, f1, f2⟩ := HBX.o wk HKK.o
   go_wp2_with fail
   refine (l1Neg_ex _ _ _ _ _ _).mono ?_; rintro e wc ⟨rfl, hwc⟩; rw [HNA.o]; have hbc : Up wb wc := by rw [hwc]; exact HBK.o.alloc HBK.o.size _
   have HBC := Hd hbc; have HCC : Hid (Up W0 wc) := HBB.o.trans (hbc.mono HBB.o.size); clear hwc hbc a0 a1 a2 b0 b1 b2 r0 r1 r2 f0 f1 f2
   go_wp2_with fail
   refine (l1SubD_any B va vb a b _ (HVA2.o.below HBC.o) (HVB.o.below HBC.o) HLA.o.1 HLE.o.1 HLE.o.2).mono ?_; rintro e wd ⟨vd, L, rfl, hL, hval, hbd⟩; have HL := Hd hL; have HV := Hd hval; have HDD : Hid (Up W0 wd) := HCC.o.trans (hbd.mono HCC.o.size); clear hL hval hbd
   go_wp2_with fail
   refine (l1Make_any _ s vd L _ HL.o).mono ?_; rintro e we ⟨z, rfl, hmk, hbe⟩; have hN : IsN (w.heap.size + 3) we z (sg s (val a) + sg (!s) (val b)) := ⟨s, trimL L, (((hmk _ _ HL.o).below hbe).mono (by have := HCC.o.size; have := HS.o; omega)), by rw [val_trimL, sg_sub s _ _ _ HV.o]⟩; have HN := Hd hN; have HEE : Hid (Up W0 we) := HDD.o.trans (hbe.mono HDD.o.size); have HBE : Hid (Up w we) := HB0.o.trans (HEE.o.mono (by have := HS.o; omega)); obtain ⟨a0, a1, a2, b0, b1, b2, r0, r1, r2, f0, f1, f2⟩ := HBX.o we HEE.o; obtain ⟨z0, zn, za, zl, zc, hzz⟩ := hN.shape; subst hzz; clear hmk hbe hN
   go_wp2
   refine bodyPost_ret ?_ rfl ⟨_, rfl, (((HN.o.setCell _ _ (by simp)).setCell _ _ (by simp)).setCell _ _ (by simp)).mono (by omega), ((HBE.o.setCell (by simp; omega) _).setCell (by simp; omega) _).setCell (by simp; omega) _⟩; simp [results, Tryz.results44, go_sem, r0, r1, r2]
set_option maxRecDepth 100000 in
set_option maxHeartbeats 4000000 in
theorem l1Add_lt (B : Nat) (x y : Int) (xn yn : Bool) (pa : Option Addr) (la ca : Nat) (pb : Option Addr) (lb cb : Nat) (na nb : Bool) (a b : List Nat) (w : World) (hBw : B ≤ w.heap.size) (hz : ((la : Int) == 0) = false ∨ ((la : Int) == 0) = true ∧ ((lb : Int) == 0) = false)
 (hza : IsZ B w (.agg #[.int .i64 x, .bool xn, .slice pa la ca]) na a) (hzb : IsZ B w (.agg #[.int .i64 y, .bool yn, .slice pb lb cb]) nb b) (s : Bool) (ha : ngZ x xn la = s) (hb : ngZ y yn lb = !s) (hla : a.length ≤ 1000000) (hlb : b.length ≤ 1000000) (hcm : cmpL a b < 0) :
 Calls Tryz.prog 44 #[.agg #[.int .i64 x, .bool xn, .slice pa la ca], .agg #[.int .i64 y, .bool yn, .slice pb lb cb]] w fun e w' => ∃ z, e = .returned z ∧ IsN w.heap.size w' z (sg s (val a) + sg (!s) (val b)) ∧ Up w w' := by
 have HNA := Hd ha; have HNB := Hd hb; have HLA : Hid (a.length ≤ 1000000 ∧ b.length ≤ 1000000) := ⟨hla, hlb⟩; have HLE : Hid (a.length ≤ b.length ∧ val a ≤ val b) := by
  have h := cmpL_ord a b hza.1 hzb.1 hza.2.1 hzb.2.1; have h2 := hcm; rw [h] at h2; refine ⟨?_, ?_⟩
  ·unfold cmpL at hcm
   by_cases h3 : a.length < b.length
   ·simp [h3] at hcm <;> omega
   by_cases h4 : b.length < a.length
   ·simp [h3, h4] at hcm <;> omega
   omega
  unfold ord at h2
  split at h2 <;> (try split at h2) <;> omega
 obtain ⟨c, hc⟩ := exW (cmpL a b); have HC := Hd hc; have hcb : -1 ≤ c ∧ c ≤ 1 := by rw [← hc]; exact cmpL_bd a b
 obtain ⟨hc1, hc2⟩ := hcb; rw [hc] at hcm; clear hc; have HX := boxes_first w x xn pa la ca y yn pb lb cb 54; obtain ⟨W0, hW0⟩ := exW (((w.alloc (.cells #[.int .i64 x, .bool xn, .slice pa la ca] 54)).alloc (.cells #[.int .i64 y, .bool yn, .slice pb lb cb] 54)).alloc (.cells #[.int .i64 0, .bool false, .slice none 0 0] 54)); have HW0 := Hd hW0; have hB0 : Up w W0 := by rw [← hW0]; exact below_al (below_al (below_alloc _ _) _) _
 have HB0 := Hd hB0; have hsz : W0.heap.size = w.heap.size + 3 := by rw [← hW0]; simp
 have hlt0 : w.heap.size < W0.heap.size := by omega
 have hlt1 : w.heap.size + 1 < W0.heap.size := by omega
 have hlt2 : w.heap.size + 2 < W0.heap.size := by omega
 rw [hW0] at HX; have HS := Hd hsz; have HBW := Hd hBw; have HBX : Hid (∀ W, Up W0 W → Boxes w.heap.size W x xn pa la ca y yn pb lb cb) := fun W hW => HX.below (by omega) hW; have HZA : Hid (∀ W, Up W0 W → IsZ B W (.agg #[.int .i64 x, .bool xn, .slice pa la ca]) na a) := fun W hW => (hza.below hB0).below hW; have HZB : Hid (∀ W, Up W0 W → IsZ B W (.agg #[.int .i64 y, .bool yn, .slice pb lb cb]) nb b) := fun W hW => (hzb.below hB0).below hW; obtain ⟨a0, a1, a2, b0, b1, b2, r0, r1, r2, f0, f1, f2⟩ := HX; clear hW0 hsz ha hb hza hzb hB0 hBw hla hlb; have HGO : Hid (∃ W1, Up W0 W1 ∧ ((((la : Int) == 0) = false ∧ W0.alloc (.cells #[.int .i64 x, .bool xn, .slice pa la ca] 54) = W1) ∨ (((la : Int) == 0) = true ∧ ((lb : Int) == 0) = false ∧ (W0.alloc (.cells #[.int .i64 x, .bool xn, .slice pa la ca] 54)).alloc (.cells #[.int .i64 y, .bool yn, .slice pb lb cb] 54) = W1))) := by
  rcases hz with h | ⟨h, h'⟩
  ·exact ⟨_, below_alloc _ _, .inl ⟨h, rfl⟩⟩
  exact ⟨_, below_al (below_alloc _ _) _, .inr ⟨h, h', rfl⟩⟩
 obtain ⟨W1, hBW1, hz1⟩ := HGO.o; have HBW1 := Hd hBW1; clear hz HGO hBW1
 go_enter Tryz.func44, Tryz.ntmps44
 go_wp2_with fail
 rw [HW0.o]; refine (l1IsSmall_ex _ _ _ _ _ _).mono ?_; rintro e w' ⟨rfl, rfl⟩
 rcases hz1 with ⟨hz, hW1⟩ | ⟨hz, hz', hW1⟩
 all_goals
  have HW1 := hide hW1; clear hW1
  go_wp2_with (go_at_call 92; refine (l1IsSmall_ex _ _ _ _ _ _).mono ?_; rintro e w' ⟨rfl, rfl⟩)
  rw [HW1.o]; clear a0 a1 a2 b0 b1 b2 r0 r1 r2 f0 f1 f2; obtain ⟨a0, a1, a2, b0, b1, b2, r0, r1, r2, f0, f1, f2⟩ := HBX.o W1 HBW1.o; refine (l1Limbs_any B _ na a _ (HZA.o _ HBW1.o) (by have := HBW1.o.size; have := HS.o; have := HBW.o; omega)).mono ?_; rintro e wa ⟨va, rfl, hva, hba⟩; have HVA := Hd hva; have HBA : Hid (Up W0 wa) := HBW1.o.trans (hba.mono HBW1.o.size); clear a0 a1 a2 b0 b1 b2 r0 r1 r2 f0 f1 f2 hva hba; obtain ⟨a0, a1, a2, b0, b1, b2, r0, r1, r2, f0, f1, f2⟩ := HBX.o wa HBA.o
  go_wp2_with fail
  refine (l1Limbs_any B _ nb b _ (HZB.o _ HBA.o) (by have := HBA.o.size; have := HS.o; have := HBW.o; omega)).mono ?_; rintro e wb ⟨vb, rfl, hvb, hbb⟩; have HVB := Hd hvb; have HVA2 : Hid (IsL B wb va a) := HVA.o.below hbb; have HBB : Hid (Up W0 wb) := HBA.o.trans (hbb.mono HBA.o.size); have hs0 : w.heap.size < wb.heap.size := by have := HBB.o.size; omega
  have hs1 : w.heap.size + 1 < wb.heap.size := by have := HBB.o.size; omega
  have hs2 : w.heap.size + 2 < wb.heap.size := by have := HBB.o.size; omega
  clear a0 a1 a2 b0 b1 b2 r0 r1 r2 f0 f1 f2 hvb hbb hlt0 hlt1 hlt2; obtain ⟨a0, a1, a2, b0, b1, b2, r0, r1, r2, f0, f1, f2⟩ := HBX.o wb HBB.o
  go_wp2_with fail
  go_region_with (first | (go_at_call_of 94 (Value.int IntKind.i64 x); refine (l1Neg_ex _ _ _ _ _ _).mono ?_; rintro e w' ⟨rfl, rfl⟩; rw [HNA.o]) | (go_at_call_of 94 (Value.int IntKind.i64 y); refine (l1Neg_ex _ _ _ _ _ _).mono ?_; rintro e w' ⟨rfl, rfl⟩; rw [HNB.o]))
  all_goals
   simp only [List.getElem_toArray, List.getElem_cons_succ, List.getElem_cons_zero, Act.put, List.setIfInBounds_toArray, List.set_cons_succ, List.set_cons_zero]
   go_wp2_with fail
   refine (l1CmpD_any B va vb a b _ (HVA2.o.below ?_) (HVB.o.below ?_)).mono ?_
   ·exact (below_al (below_alloc _ _) _).drew
   ·exact (below_al (below_alloc _ _) _).drew
   rintro e wk ⟨rfl, hbk⟩; rw [HC.o]; have hbk2 : Up wb wk := ((below_al (below_alloc wb (.cells #[.int .i64 x, .bool xn, .slice pa la ca] 54)) (.cells #[.int .i64 y, .bool yn, .slice pb lb cb] 54)).drew).trans (hbk.mono (by show wb.heap.size ≤ _; simp; omega)); have HBK := Hd hbk2; have HKK : Hid (Up W0 wk) := HBB.o.trans (hbk2.mono HBB.o.size); clear hbk hbk2 a0 a1 a2 b0 b1 b2 r0 r1 r2 f0 f1 f2 hs0 hs1 hs2; obtain ⟨a0, a1, a2, b0, b1, b2, r0, r1, r2, f0, f1, f2⟩ := HBX.o wk HKK.o
   go_wp2_with fail
   refine (l1Neg_ex _ _ _ _ _ _).mono ?_; rintro e wc ⟨rfl, hwc⟩; rw [HNB.o]; have hbc : Up wb wc := by rw [hwc]; exact HBK.o.alloc HBK.o.size _
   have HBC := Hd hbc; have HCC : Hid (Up W0 wc) := HBB.o.trans (hbc.mono HBB.o.size); clear hwc hbc a0 a1 a2 b0 b1 b2 r0 r1 r2 f0 f1 f2
   go_wp2_with fail
   refine (l1SubD_any B vb va b a _ (HVB.o.below HBC.o) (HVA2.o.below HBC.o) HLA.o.2 HLE.o.1 HLE.o.2).mono ?_; rintro e wd ⟨vd, L, rfl, hL, hval, hbd⟩; have HL := Hd hL; have HV := Hd hval; have HDD : Hid (Up W0 wd) := HCC.o.trans (hbd.mono HCC.o.size); clear hL hval hbd
   go_wp2_with fail
   refine (l1Make_any _ (!s) vd L _ HL.o).mono ?_; rintro e we ⟨z, rfl, hmk, hbe⟩; have hN : IsN (w.heap.size + 3) we z (sg s (val a) + sg (!s) (val b)) := ⟨(!s), trimL L, (((hmk _ _ HL.o).below hbe).mono (by have := HCC.o.size; have := HS.o; omega)), by rw [val_trimL, sg_sub (!s) _ _ _ HV.o, Bool.not_not, Int.add_comm]⟩; have HN := Hd hN; have HEE : Hid (Up W0 we) := HDD.o.trans (hbe.mono HDD.o.size); have HBE : Hid (Up w we) := HB0.o.trans (HEE.o.mono (by have := HS.o; omega)); obtain ⟨a0, a1, a2, b0, b1, b2, r0, r1, r2, f0, f1, f2⟩ := HBX.o we HEE.o; obtain ⟨z0, zn, za, zl, zc, hzz⟩ := hN.shape; subst hzz; clear hmk hbe hN
   go_wp2
   refine bodyPost_ret ?_ rfl ⟨_, rfl, (((HN.o.setCell _ _ (by simp)).setCell _ _ (by simp)).setCell _ _ (by simp)).mono (by omega), ((HBE.o.setCell (by simp; omega) _).setCell (by simp; omega) _).setCell (by simp; omega) _⟩; simp [results, Tryz.results44, go_sem, r0, r1, r2]
end Go.Proofs.YtfmpapcfhoomkaaGreatDoor
