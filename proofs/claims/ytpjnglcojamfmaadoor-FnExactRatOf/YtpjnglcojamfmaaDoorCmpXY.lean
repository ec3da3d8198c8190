import Derived.Test.YtpjnglcojamfmaaDoorCmpSpec
import Derived.Test.YtpjnglcojamfmaaDoorCmpTU
import Derived.Test.YtpjnglcojamfmaaDoorCmpVW
import Derived.Test.YtpjnglcojamfmaaDoorCmpImpl
namespace Go.Proofs.YtpjnglcojamfmaaDoor
open Go.ChangeShapes Go.WideShapes Go.ChangeAt Go.RowKit
set_option maxRecDepth 100000 in
set_option maxHeartbeats 4000000 in
theorem l1Cmp_s2f (B : Nat) (x y : Int) (xn yn : Bool) (pa : Option Addr) (la ca : Nat) (pb : Option Addr) (lb cb : Nat) (na nb : Bool) (a b : List Nat) (w : World) (hBw : B ≤ w.heap.size) (hz : ((la : Int) == 0) = true) (hz2 : ((lb : Int) == 0) = false)
    (hza : IsZ B w (.agg #[.int .i64 x, .bool xn, .slice pa la ca]) na a) (hzb : IsZ B w (.agg #[.int .i64 y, .bool yn, .slice pb lb cb]) nb b) (ha : ngZ x xn la = false) (hb : ngZ y yn lb = false) :
    Calls Tryd.prog 50 #[.agg #[.int .i64 x, .bool xn, .slice pa la ca], .agg #[.int .i64 y, .bool yn, .slice pb lb cb]] w fun e w' => e = .returned (.int .i64 (cmpL a b)) ∧ Below w.heap.size w w' := by
  have HNA : Hid (ngZ x xn la = false) := ha
  have HNB : Hid (ngZ y yn lb = false) := hb
  obtain ⟨W0, hW0⟩ : ∃ W0, (w.alloc (.cells #[.int .i64 x, .bool xn, .slice pa la ca] 28)).alloc (.cells #[.int .i64 y, .bool yn, .slice pb lb cb] 28) = W0 := ⟨_, rfl⟩
  have HW0 : Hid ((w.alloc (.cells #[.int .i64 x, .bool xn, .slice pa la ca] 28)).alloc (.cells #[.int .i64 y, .bool yn, .slice pb lb cb] 28) = W0) := hW0
  have hb0 : Below w.heap.size w W0 := by rw [← hW0]; exact ((Below.refl _ w).alloc (Nat.le_refl _) _).alloc (by simp) _
  have hz0 : W0.heap.size = w.heap.size + 2 := by rw [← hW0]; simp
  have hlt0 : w.heap.size < W0.heap.size := by omega
  have hlt1 : w.heap.size + 1 < W0.heap.size := by omega
  have HB0 : Hid (Below w.heap.size w W0) := hb0
  have HZ0 : Hid (W0.heap.size = w.heap.size + 2) := hz0
  have HZA : Hid (∀ W, Below W0.heap.size W0 W → IsZ B W (.agg #[.int .i64 x, .bool xn, .slice pa la ca]) na a) := fun W hW => (hza.below hb0).below hW
  have HZB : Hid (∀ W, Below W0.heap.size W0 W → IsZ B W (.agg #[.int .i64 y, .bool yn, .slice pb lb cb]) nb b) := fun W hW => (hzb.below hb0).below hW
  have HX : Hid (∀ W, Below W0.heap.size W0 W → (W.cell? ⟨w.heap.size, 0, none⟩ = some (.int .i64 x) ∧ W.cell? ⟨w.heap.size, 1, none⟩ = some (.bool xn) ∧ W.cell? ⟨w.heap.size, 2, none⟩ = some (.slice pa la ca)) ∧
      (W.cell? ⟨w.heap.size + 1, 0, none⟩ = some (.int .i64 y) ∧ W.cell? ⟨w.heap.size + 1, 1, none⟩ = some (.bool yn) ∧ W.cell? ⟨w.heap.size + 1, 2, none⟩ = some (.slice pb lb cb))) := fun W hW => by
    refine ⟨⟨?_, ?_, ?_⟩, ?_, ?_, ?_⟩
    · rw [hW.cell (p := ⟨w.heap.size, 0, none⟩) hlt0, ← hW0, World.cell?_alloc_past _ _ _ (by simp), World.cell?_alloc_at _ _ _ _ rfl]; rfl
    · rw [hW.cell (p := ⟨w.heap.size, 1, none⟩) hlt0, ← hW0, World.cell?_alloc_past _ _ _ (by simp), World.cell?_alloc_at _ _ _ _ rfl]; rfl
    · rw [hW.cell (p := ⟨w.heap.size, 2, none⟩) hlt0, ← hW0, World.cell?_alloc_past _ _ _ (by simp), World.cell?_alloc_at _ _ _ _ rfl]; rfl
    · rw [hW.cell (p := ⟨w.heap.size + 1, 0, none⟩) hlt1, ← hW0, World.cell?_alloc_at _ _ _ _ (by simp)]; rfl
    · rw [hW.cell (p := ⟨w.heap.size + 1, 1, none⟩) hlt1, ← hW0, World.cell?_alloc_at _ _ _ _ (by simp)]; rfl
    · rw [hW.cell (p := ⟨w.heap.size + 1, 2, none⟩) hlt1, ← hW0, World.cell?_alloc_at _ _ _ _ (by simp)]; rfl
  obtain ⟨W1, hW1⟩ : ∃ W1, (((W0.alloc (.cells #[.int .i64 x, .bool xn, .slice pa la ca] 28)).alloc (.cells #[.int .i64 y, .bool yn, .slice pb lb cb] 28)).alloc (.cells #[.int .i64 x, .bool xn, .slice pa la ca] 28)).alloc (.cells #[.int .i64 y, .bool yn, .slice pb lb cb] 28) = W1 := ⟨_, rfl⟩
  have HW1 : Hid ((((W0.alloc (.cells #[.int .i64 x, .bool xn, .slice pa la ca] 28)).alloc (.cells #[.int .i64 y, .bool yn, .slice pb lb cb] 28)).alloc (.cells #[.int .i64 x, .bool xn, .slice pa la ca] 28)).alloc (.cells #[.int .i64 y, .bool yn, .slice pb lb cb] 28) = W1) := hW1
  have HBW1 : Hid (Below W0.heap.size W0 W1) := by rw [← hW1]; exact below_al (below_al (below_al (below_al (Below.refl _ _) _) _) _) _
  clear hW1
  obtain ⟨⟨u0, u1, u2⟩, v0, v1, v2⟩ := HX.out W0 (Below.refl _ _)
  obtain ⟨c, hc⟩ : ∃ c, cmpL a b = c := ⟨_, rfl⟩
  have HC : Hid (cmpL a b = c) := hc
  have hcb : -1 ≤ c ∧ c ≤ 1 := by rw [← hc]; exact cmpL_bd a b
  obtain ⟨hc1, hc2⟩ := hcb
  clear ha hb hza hzb hb0 hz0 hW0 hc
  go_enter Tryd.func50, Tryd.ntmps50
  go_wp2_with fail
  rw [HW0.out]
  refine (l1IsSmall_ex _ _ _ _ _ _).mono ?_
  rintro e w' ⟨rfl, rfl⟩
  go_wp2_with (go_at_call 13; refine (l1IsSmall_ex _ _ _ _ _ _).mono ?_; rintro e w' ⟨rfl, rfl⟩)
  go_region_with (first | (go_at_call_of 37 (Value.int IntKind.i64 x); refine (l1Neg_ex _ _ _ _ _ _).mono ?_; rintro e w' ⟨rfl, rfl⟩; rw [HNA.out]) | (go_at_call_of 37 (Value.int IntKind.i64 y); refine (l1Neg_ex _ _ _ _ _ _).mono ?_; rintro e w' ⟨rfl, rfl⟩; rw [HNB.out]))
  all_goals
    go_wp2
    simp only [List.getElem_toArray, List.getElem_cons_succ, List.getElem_cons_zero, Act.put, List.setIfInBounds_toArray, List.set_cons_succ, List.set_cons_zero]
    rw [HW1.out]
    clear u0 u1 u2 v0 v1 v2
    obtain ⟨⟨u0, u1, u2⟩, v0, v1, v2⟩ := HX.out W1 HBW1.out
    go_region_with (first
      | (go_at_call_of 22 (Value.int IntKind.i64 x); refine (l1Limbs_any B _ na a _ (HZA.out _ ?_) ?_).mono ?_
         · exact HBW1.out.drew.drew
         · have := HBW1.out.size; have := HZ0.out; show B ≤ W1.heap.size; omega
         rintro e wa ⟨va, rfl, hva, hba⟩
         have HBA : Below W0.heap.size W0 wa := HBW1.out.drew.drew.trans (hba.mono HBW1.out.size)
         obtain ⟨⟨a0, a1, a2⟩, b0, b1, b2⟩ := HX.out wa HBA
         have HVA : Hid (IsL B wa va a) := hva
         have HBA' : Hid (Below W0.heap.size W0 wa) := HBA
         clear hva hba HBA)
      | (go_at_call_of 22 (Value.int IntKind.i64 y); refine (l1Limbs_any B _ nb b _ (HZB.out _ ?_) ?_).mono ?_
         · exact HBA'.out
         · have := HBA'.out.size; have := HZ0.out; omega
         rintro e wb ⟨vb, rfl, hvb, hbb⟩
         have HBB : Hid (Below W0.heap.size W0 wb) := HBA'.out.trans (hbb.mono HBA'.out.size)
         have HVB : Hid (IsL B wb vb b) := hvb
         have HVA2 : Hid (IsL B wb va a) := HVA.out.below hbb
         clear hvb hbb)
      | (go_at_call 57; refine (l1CmpD_any B va vb a b _ HVA2.out HVB.out).mono ?_
         rintro e wc ⟨rfl, hbc⟩
         have HBC : Hid (Below W0.heap.size W0 wc) := HBB.out.trans (hbc.mono HBB.out.size)
         obtain ⟨⟨c0, c1, c2⟩, d0, d1, d2⟩ := HX.out wc HBC.out
         rw [HC.out]
         clear hbc))
    all_goals
      simp only [List.getElem_toArray, List.getElem_cons_succ, List.getElem_cons_zero, Act.put, List.setIfInBounds_toArray, List.set_cons_succ, List.set_cons_zero]
      go_wp2_with (go_at_call 37; refine (l1Neg_ex _ _ _ _ _ _).mono ?_; rintro e w' ⟨rfl, rfl⟩; rw [HNA.out])
      go_ret
      exact ⟨ret_int (by rw [HC.out]), below_al (HB0.out.trans (HBC.out.mono (by omega))) _⟩
end Go.Proofs.YtpjnglcojamfmaaDoor
namespace Go.Proofs.YtpjnglcojamfmaaDoor
open Go.ChangeShapes Go.WideShapes Go.ChangeAt Go.RowKit
set_option maxRecDepth 100000 in
set_option maxHeartbeats 4000000 in
theorem l1Cmp_s2t (B : Nat) (x y : Int) (xn yn : Bool) (pa : Option Addr) (la ca : Nat) (pb : Option Addr) (lb cb : Nat) (na nb : Bool) (a b : List Nat) (w : World) (hBw : B ≤ w.heap.size) (hz : ((la : Int) == 0) = true) (hz2 : ((lb : Int) == 0) = false)
    (hza : IsZ B w (.agg #[.int .i64 x, .bool xn, .slice pa la ca]) na a) (hzb : IsZ B w (.agg #[.int .i64 y, .bool yn, .slice pb lb cb]) nb b) (ha : ngZ x xn la = true) (hb : ngZ y yn lb = true) :
    Calls Tryd.prog 50 #[.agg #[.int .i64 x, .bool xn, .slice pa la ca], .agg #[.int .i64 y, .bool yn, .slice pb lb cb]] w fun e w' => e = .returned (.int .i64 (-cmpL a b)) ∧ Below w.heap.size w w' := by
  have HNA : Hid (ngZ x xn la = true) := ha
  have HNB : Hid (ngZ y yn lb = true) := hb
  obtain ⟨W0, hW0⟩ : ∃ W0, (w.alloc (.cells #[.int .i64 x, .bool xn, .slice pa la ca] 28)).alloc (.cells #[.int .i64 y, .bool yn, .slice pb lb cb] 28) = W0 := ⟨_, rfl⟩
  have HW0 : Hid ((w.alloc (.cells #[.int .i64 x, .bool xn, .slice pa la ca] 28)).alloc (.cells #[.int .i64 y, .bool yn, .slice pb lb cb] 28) = W0) := hW0
  have hb0 : Below w.heap.size w W0 := by rw [← hW0]; exact ((Below.refl _ w).alloc (Nat.le_refl _) _).alloc (by simp) _
  have hz0 : W0.heap.size = w.heap.size + 2 := by rw [← hW0]; simp
  have hlt0 : w.heap.size < W0.heap.size := by omega
  have hlt1 : w.heap.size + 1 < W0.heap.size := by omega
  have HB0 : Hid (Below w.heap.size w W0) := hb0
  have HZ0 : Hid (W0.heap.size = w.heap.size + 2) := hz0
  have HZA : Hid (∀ W, Below W0.heap.size W0 W → IsZ B W (.agg #[.int .i64 x, .bool xn, .slice pa la ca]) na a) := fun W hW => (hza.below hb0).below hW
  have HZB : Hid (∀ W, Below W0.heap.size W0 W → IsZ B W (.agg #[.int .i64 y, .bool yn, .slice pb lb cb]) nb b) := fun W hW => (hzb.below hb0).below hW
  have HX : Hid (∀ W, Below W0.heap.size W0 W → (W.cell? ⟨w.heap.size, 0, none⟩ = some (.int .i64 x) ∧ W.cell? ⟨w.heap.size, 1, none⟩ = some (.bool xn) ∧ W.cell? ⟨w.heap.size, 2, none⟩ = some (.slice pa la ca)) ∧
      (W.cell? ⟨w.heap.size + 1, 0, none⟩ = some (.int .i64 y) ∧ W.cell? ⟨w.heap.size + 1, 1, none⟩ = some (.bool yn) ∧ W.cell? ⟨w.heap.size + 1, 2, none⟩ = some (.slice pb lb cb))) := fun W hW => by
    refine ⟨⟨?_, ?_, ?_⟩, ?_, ?_, ?_⟩
    · rw [hW.cell (p := ⟨w.heap.size, 0, none⟩) hlt0, ← hW0, World.cell?_alloc_past _ _ _ (by simp), World.cell?_alloc_at _ _ _ _ rfl]; rfl
    · rw [hW.cell (p := ⟨w.heap.size, 1, none⟩) hlt0, ← hW0, World.cell?_alloc_past _ _ _ (by simp), World.cell?_alloc_at _ _ _ _ rfl]; rfl
    · rw [hW.cell (p := ⟨w.heap.size, 2, none⟩) hlt0, ← hW0, World.cell?_alloc_past _ _ _ (by simp), World.cell?_alloc_at _ _ _ _ rfl]; rfl
    · rw [hW.cell (p := ⟨w.heap.size + 1, 0, none⟩) hlt1, ← hW0, World.cell?_alloc_at _ _ _ _ (by simp)]; rfl
    · rw [hW.cell (p := ⟨w.heap.size + 1, 1, none⟩) hlt1, ← hW0, World.cell?_alloc_at _ _ _ _ (by simp)]; rfl
    · rw [hW.cell (p := ⟨w.heap.size + 1, 2, none⟩) hlt1, ← hW0, World.cell?_alloc_at _ _ _ _ (by simp)]; rfl
  obtain ⟨W1, hW1⟩ : ∃ W1, (((W0.alloc (.cells #[.int .i64 x, .bool xn, .slice pa la ca] 28)).alloc (.cells #[.int .i64 y, .bool yn, .slice pb lb cb] 28)).alloc (.cells #[.int .i64 x, .bool xn, .slice pa la ca] 28)).alloc (.cells #[.int .i64 y, .bool yn, .slice pb lb cb] 28) = W1 := ⟨_, rfl⟩
  have HW1 : Hid ((((W0.alloc (.cells #[.int .i64 x, .bool xn, .slice pa la ca] 28)).alloc (.cells #[.int .i64 y, .bool yn, .slice pb lb cb] 28)).alloc (.cells #[.int .i64 x, .bool xn, .slice pa la ca] 28)).alloc (.cells #[.int .i64 y, .bool yn, .slice pb lb cb] 28) = W1) := hW1
  have HBW1 : Hid (Below W0.heap.size W0 W1) := by rw [← hW1]; exact below_al (below_al (below_al (below_al (Below.refl _ _) _) _) _) _
  clear hW1
  obtain ⟨⟨u0, u1, u2⟩, v0, v1, v2⟩ := HX.out W0 (Below.refl _ _)
  obtain ⟨c, hc⟩ : ∃ c, cmpL a b = c := ⟨_, rfl⟩
  have HC : Hid (cmpL a b = c) := hc
  have hcb : -1 ≤ c ∧ c ≤ 1 := by rw [← hc]; exact cmpL_bd a b
  obtain ⟨hc1, hc2⟩ := hcb
  clear ha hb hza hzb hb0 hz0 hW0 hc
  go_enter Tryd.func50, Tryd.ntmps50
  go_wp2_with fail
  rw [HW0.out]
  refine (l1IsSmall_ex _ _ _ _ _ _).mono ?_
  rintro e w' ⟨rfl, rfl⟩
  go_wp2_with (go_at_call 13; refine (l1IsSmall_ex _ _ _ _ _ _).mono ?_; rintro e w' ⟨rfl, rfl⟩)
  go_region_with (first | (go_at_call_of 37 (Value.int IntKind.i64 x); refine (l1Neg_ex _ _ _ _ _ _).mono ?_; rintro e w' ⟨rfl, rfl⟩; rw [HNA.out]) | (go_at_call_of 37 (Value.int IntKind.i64 y); refine (l1Neg_ex _ _ _ _ _ _).mono ?_; rintro e w' ⟨rfl, rfl⟩; rw [HNB.out]))
  all_goals
    go_wp2
    simp only [List.getElem_toArray, List.getElem_cons_succ, List.getElem_cons_zero, Act.put, List.setIfInBounds_toArray, List.set_cons_succ, List.set_cons_zero]
    rw [HW1.out]
    clear u0 u1 u2 v0 v1 v2
    obtain ⟨⟨u0, u1, u2⟩, v0, v1, v2⟩ := HX.out W1 HBW1.out
    go_region_with (first
      | (go_at_call_of 22 (Value.int IntKind.i64 x); refine (l1Limbs_any B _ na a _ (HZA.out _ ?_) ?_).mono ?_
         · exact HBW1.out.drew.drew
         · have := HBW1.out.size; have := HZ0.out; show B ≤ W1.heap.size; omega
         rintro e wa ⟨va, rfl, hva, hba⟩
         have HBA : Below W0.heap.size W0 wa := HBW1.out.drew.drew.trans (hba.mono HBW1.out.size)
         obtain ⟨⟨a0, a1, a2⟩, b0, b1, b2⟩ := HX.out wa HBA
         have HVA : Hid (IsL B wa va a) := hva
         have HBA' : Hid (Below W0.heap.size W0 wa) := HBA
         clear hva hba HBA)
      | (go_at_call_of 22 (Value.int IntKind.i64 y); refine (l1Limbs_any B _ nb b _ (HZB.out _ ?_) ?_).mono ?_
         · exact HBA'.out
         · have := HBA'.out.size; have := HZ0.out; omega
         rintro e wb ⟨vb, rfl, hvb, hbb⟩
         have HBB : Hid (Below W0.heap.size W0 wb) := HBA'.out.trans (hbb.mono HBA'.out.size)
         have HVB : Hid (IsL B wb vb b) := hvb
         have HVA2 : Hid (IsL B wb va a) := HVA.out.below hbb
         clear hvb hbb)
      | (go_at_call 57; refine (l1CmpD_any B va vb a b _ HVA2.out HVB.out).mono ?_
         rintro e wc ⟨rfl, hbc⟩
         have HBC : Hid (Below W0.heap.size W0 wc) := HBB.out.trans (hbc.mono HBB.out.size)
         obtain ⟨⟨c0, c1, c2⟩, d0, d1, d2⟩ := HX.out wc HBC.out
         rw [HC.out]
         clear hbc))
    all_goals
      simp only [List.getElem_toArray, List.getElem_cons_succ, List.getElem_cons_zero, Act.put, List.setIfInBounds_toArray, List.set_cons_succ, List.set_cons_zero]
      go_wp2_with (go_at_call 37; refine (l1Neg_ex _ _ _ _ _ _).mono ?_; rintro e w' ⟨rfl, rfl⟩; rw [HNA.out])
      go_ret
      exact ⟨ret_int (by rw [HC.out]), below_al (HB0.out.trans (HBC.out.mono (by omega))) _⟩
end Go.Proofs.YtpjnglcojamfmaaDoor
namespace Go.Proofs.YtpjnglcojamfmaaDoor
open Go.ChangeShapes Go.WideShapes Go.ChangeAt Go.RowKit
theorem cmpL_anti (a b : List Nat) (ha : okL a) (hb : okL b) (ta : isTrim a) (tb : isTrim b) : cmpL b a = -cmpL a b := by
  rw [cmpL_ord a b ha hb ta tb, cmpL_ord b a hb ha tb ta]
  unfold ord
  split <;> split <;> (try split) <;> omega
theorem IsZ.form {B : Nat} {w : World} {z : Value} {na : Bool} {a : List Nat} (h : IsZ B w z na a) : ∃ x xn p l c, z = .agg #[.int .i64 x, .bool xn, .slice p l c] ∧ ngZ x xn l = negOf na a ∧ (l = 0 → z = .agg #[.int .i64 (sg na (val a)), .bool false, .slice none 0 0]) := by
  obtain ⟨h1, h2, h3⟩ := h
  rcases h3 with ⟨h3, v, rfl, p, c, rfl, _⟩ | ⟨h3, rfl⟩
  · refine ⟨_, _, _, _, _, rfl, ?_, fun e => by omega⟩
    unfold ngZ negOf
    have : 0 < a.length := by omega
    simp [this]
  · exact ⟨_, _, _, _, _, rfl, (negOf_small na a h3 h1 h2).symm, fun _ => rfl⟩
theorem l1Cmp_any (B : Nat) (za zb : Value) (na nb : Bool) (a b : List Nat) (w : World) (hBw : B ≤ w.heap.size) (hza : IsZ B w za na a) (hzb : IsZ B w zb nb b) :
    Calls Tryd.prog 50 #[za, zb] w fun e w' => e = .returned (.int .i64 (cmpI (negOf na a) (negOf nb b) a b)) ∧ Below w.heap.size w w' := by
  have hoa := hza.1; have hob := hzb.1; have hta := hza.2.1; have htb := hzb.2.1
  obtain ⟨x, xn, pa, la, ca, rfl, fa, ga⟩ := hza.form
  obtain ⟨y, yn, pb, lb, cb, rfl, fb, gb⟩ := hzb.form
  by_cases h0 : la = 0 ∧ lb = 0
  · rw [ga h0.1, gb h0.2, cmpI_ord na nb a b hoa hob hta htb]
    exact l1Cmp_small _ _ w
  have hz : ((la : Int) == 0) = false ∨ (((la : Int) == 0) = true ∧ ((lb : Int) == 0) = false) := by
    by_cases h : la = 0
    · exact .inr ⟨by rw [beq_iff_eq]; omega, by rw [beq_eq_false_iff_ne]; omega⟩
    · exact .inl (by rw [beq_eq_false_iff_ne]; omega)
  cases ea : negOf na a <;> cases eb : negOf nb b
  · rw [ea] at fa; rw [eb] at fb
    show Calls _ _ _ _ fun e w' => e = .returned (.int .i64 (cmpL a b)) ∧ _
    rcases hz with hz | ⟨hz, hz2⟩
    · exact l1Cmp_s1f B x y xn yn pa la ca pb lb cb na nb a b w hBw hz hza hzb fa fb
    · exact l1Cmp_s2f B x y xn yn pa la ca pb lb cb na nb a b w hBw hz hz2 hza hzb fa fb
  · rw [ea] at fa; rw [eb] at fb
    show Calls _ _ _ _ fun e w' => e = .returned (.int .i64 (1)) ∧ _
    rcases hz with hz | ⟨hz, hz2⟩
    · exact l1Cmp_ft1 x y xn yn pa la ca pb lb cb w hz fa fb
    · exact l1Cmp_ft2 x y xn yn pa la ca pb lb cb w hz hz2 fa fb
  · rw [ea] at fa; rw [eb] at fb
    show Calls _ _ _ _ fun e w' => e = .returned (.int .i64 (-1)) ∧ _
    rcases hz with hz | ⟨hz, hz2⟩
    · exact l1Cmp_tf1 x y xn yn pa la ca pb lb cb w hz fa fb
    · exact l1Cmp_tf2 x y xn yn pa la ca pb lb cb w hz hz2 fa fb
  · rw [ea] at fa; rw [eb] at fb
    show Calls _ _ _ _ fun e w' => e = .returned (.int .i64 (cmpL b a)) ∧ _
    rw [cmpL_anti a b hoa hob hta htb]
    rcases hz with hz | ⟨hz, hz2⟩
    · exact l1Cmp_s1t B x y xn yn pa la ca pb lb cb na nb a b w hBw hz hza hzb fa fb
    · exact l1Cmp_s2t B x y xn yn pa la ca pb lb cb na nb a b w hBw hz hz2 hza hzb fa fb
end Go.Proofs.YtpjnglcojamfmaaDoor
