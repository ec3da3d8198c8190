import Derived.Test.YtpjnglcojamfmaaDoorM8
namespace Go.Proofs.YtpjnglcojamfmaaDoor
open Go.ChangeShapes Go.WideShapes Go.ChangeAt Go.RowKit
theorem hide {p : Prop} (h : p) : Hid p := h
set_option maxRecDepth 100000 in
set_option maxHeartbeats 4000000 in
theorem l1Add_same (B : Nat) (x y : Int) (xn yn : Bool) (pa : Option Addr) (la ca : Nat) (pb : Option Addr) (lb cb : Nat) (na nb : Bool) (a b : List Nat) (w : World) (hBw : B ≤ w.heap.size) (hz : ((la : Int) == 0) = false ∨ ((la : Int) == 0) = true ∧ ((lb : Int) == 0) = false)
    (hza : IsZ B w (.agg #[.int .i64 x, .bool xn, .slice pa la ca]) na a) (hzb : IsZ B w (.agg #[.int .i64 y, .bool yn, .slice pb lb cb]) nb b) (s : Bool) (ha : ngZ x xn la = s) (hb : ngZ y yn lb = s) (hla : a.length ≤ 1000000) (hlb : b.length ≤ 1000000) :
    Calls Tryd.prog 39 #[.agg #[.int .i64 x, .bool xn, .slice pa la ca], .agg #[.int .i64 y, .bool yn, .slice pb lb cb]] w fun e w' => ∃ z, e = .returned z ∧ IsN w.heap.size w' z (sg s (val a) + sg (s) (val b)) ∧ Below w.heap.size w w' := by
  have HNA : Hid (ngZ x xn la = s) := ha
  have HNB : Hid (ngZ y yn lb = s) := hb
  have HLA : Hid (a.length ≤ 1000000 ∧ b.length ≤ 1000000) := ⟨hla, hlb⟩
  have HX := boxes_first w x xn pa la ca y yn pb lb cb 28
  obtain ⟨W0, hW0⟩ : ∃ W0, (((w.alloc (.cells #[.int .i64 x, .bool xn, .slice pa la ca] 28)).alloc (.cells #[.int .i64 y, .bool yn, .slice pb lb cb] 28)).alloc (.cells #[.int .i64 0, .bool false, .slice none 0 0] 28)) = W0 := ⟨_, rfl⟩
  have HW0 : Hid ((((w.alloc (.cells #[.int .i64 x, .bool xn, .slice pa la ca] 28)).alloc (.cells #[.int .i64 y, .bool yn, .slice pb lb cb] 28)).alloc (.cells #[.int .i64 0, .bool false, .slice none 0 0] 28)) = W0) := hW0
  have hB0 : Below w.heap.size w W0 := by rw [← hW0]; exact below_al (below_al (below_alloc _ _) _) _
  have HB0 : Hid (Below w.heap.size w W0) := hB0
  have hsz : W0.heap.size = w.heap.size + 3 := by rw [← hW0]; simp
  have hlt0 : w.heap.size < W0.heap.size := by omega
  have hlt1 : w.heap.size + 1 < W0.heap.size := by omega
  have hlt2 : w.heap.size + 2 < W0.heap.size := by omega
  rw [hW0] at HX
  have HS : Hid (W0.heap.size = w.heap.size + 3) := hsz
  have HBW : Hid (B ≤ w.heap.size) := hBw
  have HBX : Hid (∀ W, Below W0.heap.size W0 W → Boxes w.heap.size W x xn pa la ca y yn pb lb cb) := fun W hW => HX.below (by omega) hW
  have HZA : Hid (∀ W, Below W0.heap.size W0 W → IsZ B W (.agg #[.int .i64 x, .bool xn, .slice pa la ca]) na a) := fun W hW => (hza.below hB0).below hW
  have HZB : Hid (∀ W, Below W0.heap.size W0 W → IsZ B W (.agg #[.int .i64 y, .bool yn, .slice pb lb cb]) nb b) := fun W hW => (hzb.below hB0).below hW
  obtain ⟨a0, a1, a2, b0, b1, b2, r0, r1, r2, f0, f1, f2⟩ := HX
  clear hW0 hsz ha hb hza hzb hB0 hBw hla hlb
  have HGO : Hid (∃ W1, Below W0.heap.size W0 W1 ∧ ((((la : Int) == 0) = false ∧ W0.alloc (.cells #[.int .i64 x, .bool xn, .slice pa la ca] 28) = W1) ∨ (((la : Int) == 0) = true ∧ ((lb : Int) == 0) = false ∧ (W0.alloc (.cells #[.int .i64 x, .bool xn, .slice pa la ca] 28)).alloc (.cells #[.int .i64 y, .bool yn, .slice pb lb cb] 28) = W1))) := by
    rcases hz with h | ⟨h, h'⟩
    · exact ⟨_, below_alloc _ _, .inl ⟨h, rfl⟩⟩
    · exact ⟨_, below_al (below_alloc _ _) _, .inr ⟨h, h', rfl⟩⟩
  obtain ⟨W1, hBW1, hz1⟩ := HGO.out
  have HBW1 : Hid (Below W0.heap.size W0 W1) := hBW1
  clear hz HGO hBW1
  go_enter Tryd.func39, Tryd.ntmps39
  go_wp2_with fail
  rw [HW0.out]
  refine (l1IsSmall_ex _ _ _ _ _ _).mono ?_
  rintro e w' ⟨rfl, rfl⟩
  rcases hz1 with ⟨hz, hW1⟩ | ⟨hz, hz', hW1⟩
  all_goals
    have HW1 := hide hW1
    clear hW1
    go_wp2_with (go_at_call 13; refine (l1IsSmall_ex _ _ _ _ _ _).mono ?_; rintro e w' ⟨rfl, rfl⟩)
    rw [HW1.out]
    clear a0 a1 a2 b0 b1 b2 r0 r1 r2 f0 f1 f2
    obtain ⟨a0, a1, a2, b0, b1, b2, r0, r1, r2, f0, f1, f2⟩ := HBX.out W1 HBW1.out
    refine (l1Limbs_any B _ na a _ (HZA.out _ HBW1.out) (by have := HBW1.out.size; have := HS.out; have := HBW.out; omega)).mono ?_
    rintro e wa ⟨va, rfl, hva, hba⟩
    have HVA : Hid (IsL B wa va a) := hva
    have HBA : Hid (Below W0.heap.size W0 wa) := HBW1.out.trans (hba.mono HBW1.out.size)
    clear a0 a1 a2 b0 b1 b2 r0 r1 r2 f0 f1 f2 hva hba
    obtain ⟨a0, a1, a2, b0, b1, b2, r0, r1, r2, f0, f1, f2⟩ := HBX.out wa HBA.out
    go_wp2_with fail
    refine (l1Limbs_any B _ nb b _ (HZB.out _ HBA.out) (by have := HBA.out.size; have := HS.out; have := HBW.out; omega)).mono ?_
    rintro e wb ⟨vb, rfl, hvb, hbb⟩
    have HVB : Hid (IsL B wb vb b) := hvb
    have HVA2 : Hid (IsL B wb va a) := HVA.out.below hbb
    have HBB : Hid (Below W0.heap.size W0 wb) := HBA.out.trans (hbb.mono HBA.out.size)
    have hs0 : w.heap.size < wb.heap.size := by have := HBB.out.size; omega
    have hs1 : w.heap.size + 1 < wb.heap.size := by have := HBB.out.size; omega
    have hs2 : w.heap.size + 2 < wb.heap.size := by have := HBB.out.size; omega
    clear a0 a1 a2 b0 b1 b2 r0 r1 r2 f0 f1 f2 hvb hbb hlt0 hlt1 hlt2
    obtain ⟨a0, a1, a2, b0, b1, b2, r0, r1, r2, f0, f1, f2⟩ := HBX.out wb HBB.out
    go_wp2_with fail
    go_region_with (first | (go_at_call_of 37 (Value.int IntKind.i64 x); refine (l1Neg_ex _ _ _ _ _ _).mono ?_; rintro e w' ⟨rfl, rfl⟩; rw [HNA.out]) | (go_at_call_of 37 (Value.int IntKind.i64 y); refine (l1Neg_ex _ _ _ _ _ _).mono ?_; rintro e w' ⟨rfl, rfl⟩; rw [HNB.out]))
    all_goals
      simp only [List.getElem_toArray, List.getElem_cons_succ, List.getElem_cons_zero, Act.put, List.setIfInBounds_toArray, List.set_cons_succ, List.set_cons_zero]
      go_wp2_with fail
      refine (l1Neg_ex _ _ _ _ _ _).mono ?_
      rintro e wc ⟨rfl, hwc⟩
      rw [HNA.out]
      have hbc : Below wb.heap.size wb wc := by rw [hwc]; exact below_al ((below_al (below_alloc _ _) _).drew) _
      have HBC : Hid (Below wb.heap.size wb wc) := hbc
      have HCC : Hid (Below W0.heap.size W0 wc) := HBB.out.trans (hbc.mono HBB.out.size)
      clear hwc hbc a0 a1 a2 b0 b1 b2 r0 r1 r2 f0 f1 f2 hs0 hs1 hs2
      go_wp2_with fail
      refine (l1AddD_any B va vb a b _ (HVA2.out.below HBC.out) (HVB.out.below HBC.out) HLA.out.1 HLA.out.2).mono ?_
      rintro e wd ⟨vd, L, rfl, hL, hval, hbd⟩
      have HL : Hid (IsL wc.heap.size wd vd L) := hL
      have HV : Hid (val L = val a + val b) := hval
      have HDD : Hid (Below W0.heap.size W0 wd) := HCC.out.trans (hbd.mono HCC.out.size)
      clear hL hval hbd
      go_wp2_with fail
      refine (l1Make_any _ s vd L _ HL.out).mono ?_
      rintro e we ⟨z, rfl, hmk, hbe⟩
      have hN : IsN (w.heap.size + 3) we z (sg s (val a) + sg s (val b)) := ⟨s, trimL L, (((hmk _ _ HL.out).below hbe).mono (by have := HCC.out.size; have := HS.out; omega)), by rw [val_trimL, HV.out, sg_add]⟩
      have HN : Hid (IsN (w.heap.size + 3) we z (sg s (val a) + sg s (val b))) := hN
      have HEE : Hid (Below W0.heap.size W0 we) := HDD.out.trans (hbe.mono HDD.out.size)
      have HBE : Hid (Below w.heap.size w we) := HB0.out.trans (HEE.out.mono (by have := HS.out; omega))
      obtain ⟨a0, a1, a2, b0, b1, b2, r0, r1, r2, f0, f1, f2⟩ := HBX.out we HEE.out
      obtain ⟨z0, zn, za, zl, zc, hzz⟩ := hN.shape
      subst hzz
      clear hmk hbe hN
      go_wp2
      refine bodyPost_ret ?_ rfl ⟨_, rfl, (((HN.out.setCell _ _ (by simp)).setCell _ _ (by simp)).setCell _ _ (by simp)).mono (by omega), ((HBE.out.setCell (by simp; omega) _).setCell (by simp; omega) _).setCell (by simp; omega) _⟩
      simp [results, Tryd.results39, go_sem, r0, r1, r2]
end Go.Proofs.YtpjnglcojamfmaaDoor
