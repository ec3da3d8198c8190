import Derived.Test.YtfmpapcfhoomkaaGreatDoorCmpSpecp
import Derived.Test.YtfmpapcfhoomkaaGreatDoorCmpTWp
import Derived.Test.YtfmpapcfhoomkaaGreatDoorCmpImplp
namespace Go.Proofs.YtfmpapcfhoomkaaGreatDoor
open Go.ChangeShapes Go.WideShapes Go.ChangeAt Go.RowKit
set_option maxRecDepth 100000 in
set_option maxHeartbeats 4000000 in
theorem l1Cmp_s2f (B : Nat) (x y : Int) (xn yn : Bool) (pa : Option Addr) (la ca : Nat) (pb : Option Addr) (lb cb : Nat) (na nb : Bool) (a b : List Nat) (w : World) (hBw : B ≤ w.heap.size) (hz : ((la : Int) == 0) = true) (hz2 : ((lb : Int) == 0) = false)
 (hza : IsZ B w (.agg #[.int .i64 x, .bool xn, .slice pa la ca]) na a) (hzb : IsZ B w (.agg #[.int .i64 y, .bool yn, .slice pb lb cb]) nb b) (ha : ngZ x xn la = false) (hb : ngZ y yn lb = false) :
 Calls Tryz.prog 50 #[.agg #[.int .i64 x, .bool xn, .slice pa la ca], .agg #[.int .i64 y, .bool yn, .slice pb lb cb]] w fun e w' => e = .returned (.int .i64 (cmpL a b)) ∧ Up w w' := by
 have HNA := Hd ha; have HNB := Hd hb; obtain ⟨W0, hW0⟩ := exW ((w.alloc (.cells #[.int .i64 x, .bool xn, .slice pa la ca] 54)).alloc (.cells #[.int .i64 y, .bool yn, .slice pb lb cb] 54)); have HW0 := Hd hW0; have hb0 : Up w W0 := by rw [← hW0]; exact ((Below.refl _ w).alloc leR _).alloc (by simp) _
 have hz0 : W0.heap.size = w.heap.size + 2 := by rw [← hW0]; simp
 have hlt0 : w.heap.size < W0.heap.size := by omega
 have hlt1 : w.heap.size + 1 < W0.heap.size := by omega
 have HB0 := Hd hb0; have HZ0 := Hd hz0; have HZA : Hid (∀ W, Up W0 W → IsZ B W (.agg #[.int .i64 x, .bool xn, .slice pa la ca]) na a) := fun W hW => (hza.below hb0).below hW; have HZB : Hid (∀ W, Up W0 W → IsZ B W (.agg #[.int .i64 y, .bool yn, .slice pb lb cb]) nb b) := fun W hW => (hzb.below hb0).below hW; have HX : Hid (∀ W, Up W0 W → (W.cell? ⟨w.heap.size, 0, none⟩ = some (.int .i64 x) ∧ W.cell? ⟨w.heap.size, 1, none⟩ = some (.bool xn) ∧ W.cell? ⟨w.heap.size, 2, none⟩ = some (.slice pa la ca)) ∧
  (W.cell? ⟨w.heap.size + 1, 0, none⟩ = some (.int .i64 y) ∧ W.cell? ⟨w.heap.size + 1, 1, none⟩ = some (.bool yn) ∧ W.cell? ⟨w.heap.size + 1, 2, none⟩ = some (.slice pb lb cb))) := fun W hW => by
  refine ⟨⟨?_, ?_, ?_⟩, ?_, ?_, ?_⟩
  ·rw [hW.cell (p := ⟨w.heap.size, 0, none⟩) hlt0, ← hW0, World.cell?_alloc_past _ _ _ (by simp), World.cell?_alloc_at _ _ _ _ rfl]; rfl
  ·rw [hW.cell (p := ⟨w.heap.size, 1, none⟩) hlt0, ← hW0, World.cell?_alloc_past _ _ _ (by simp), World.cell?_alloc_at _ _ _ _ rfl]; rfl
  ·rw [hW.cell (p := ⟨w.heap.size, 2, none⟩) hlt0, ← hW0, World.cell?_alloc_past _ _ _ (by simp), World.cell?_alloc_at _ _ _ _ rfl]; rfl
  ·rw [hW.cell (p := ⟨w.heap.size + 1, 0, none⟩) hlt1, ← hW0, World.cell?_alloc_at _ _ _ _ (by simp)]; rfl
  ·rw [hW.cell (p := ⟨w.heap.size + 1, 1, none⟩) hlt1, ← hW0, World.cell?_alloc_at _ _ _ _ (by simp)]; rfl
  ·rw [hW.cell (p := ⟨w.heap.size + 1, 2, none⟩) hlt1, ← hW0, World.cell?_alloc_at _ _ _ _ (by simp)]; rfl
 obtain ⟨W1, hW1⟩ := exW ((((W0.alloc (.cells #[.int .i64 x, .bool xn, .slice pa la ca] 54)).alloc (.cells #[.int .i64 y, .bool yn, .slice pb lb cb] 54)).alloc (.cells #[.int .i64 x, .bool xn, .slice pa la ca] 54)).alloc (.cells #[.int .i64 y, .bool yn, .slice pb lb cb] 54)); have HW1 := Hd hW1; have HBW1 : Hid (Up W0 W1) := by rw [← hW1]; exact below_al (below_al (below_al (below_al (Below.refl _ _) _) _) _) _
 clear hW1; obtain ⟨⟨u0, u1, u2⟩, v0, v1, v2⟩ := HX.o W0 (Below.refl _ _); obtain ⟨c, hc⟩ := exW (cmpL a b); have HC := Hd hc; have hcb : -1 ≤ c ∧ c ≤ 1 := by rw [← hc]; exact cmpL_bd a b
 obtain ⟨hc1, hc2⟩ := hcb; clear ha hb hza hzb hb0 hz0 hW0 hc
 go_enter Tryz.func50, Tryz.ntmps50
 go_wp2_with fail
 rw [HW0.o]; refine (l1IsSmall_ex _ _ _ _ _ _).mono ?_; rintro e w' ⟨rfl, rfl⟩
 go_wp2_with (go_at_call 92; refine (l1IsSmall_ex _ _ _ _ _ _).mono ?_; rintro e w' ⟨rfl, rfl⟩)
 go_region_with (first | (go_at_call_of 94 (Value.int IntKind.i64 x); refine (l1Neg_ex _ _ _ _ _ _).mono ?_; rintro e w' ⟨rfl, rfl⟩; rw [HNA.o]) | (go_at_call_of 94 (Value.int IntKind.i64 y); refine (l1Neg_ex _ _ _ _ _ _).mono ?_; rintro e w' ⟨rfl, rfl⟩; rw [HNB.o]))
 all_goals
  go_wp2
  simp only [List.getElem_toArray, List.getElem_cons_succ, List.getElem_cons_zero, Act.put, List.setIfInBounds_toArray, List.set_cons_succ, List.set_cons_zero]; rw [HW1.o]; clear u0 u1 u2 v0 v1 v2; obtain ⟨⟨u0, u1, u2⟩, v0, v1, v2⟩ := HX.o W1 HBW1.o
  go_region_with (first
   | (go_at_call_of 93 (Value.int IntKind.i64 x); refine (l1Limbs_any B _ na a _ (HZA.o _ ?_) ?_).mono ?_
      ·exact HBW1.o.drew.drew
      ·have := HBW1.o.size; have := HZ0.o; show B ≤ W1.heap.size; omega
      rintro e wa ⟨va, rfl, hva, hba⟩; have HBA : Up W0 wa := HBW1.o.drew.drew.trans (hba.mono HBW1.o.size); obtain ⟨⟨a0, a1, a2⟩, b0, b1, b2⟩ := HX.o wa HBA; have HVA := Hd hva; have HBA' : Hid (Up W0 wa) := HBA; clear hva hba HBA)
   | (go_at_call_of 93 (Value.int IntKind.i64 y); refine (l1Limbs_any B _ nb b _ (HZB.o _ ?_) ?_).mono ?_
      ·exact HBA'.o
      ·have := HBA'.o.size; have := HZ0.o; omega
      rintro e wb ⟨vb, rfl, hvb, hbb⟩; have HBB : Hid (Up W0 wb) := HBA'.o.trans (hbb.mono HBA'.o.size); have HVB := Hd hvb; have HVA2 : Hid (IsL B wb va a) := HVA.o.below hbb; clear hvb hbb)
   | (go_at_call 97; refine (l1CmpD_any B va vb a b _ HVA2.o HVB.o).mono ?_
      rintro e wc ⟨rfl, hbc⟩; have HBC : Hid (Up W0 wc) := HBB.o.trans (hbc.mono HBB.o.size); obtain ⟨⟨c0, c1, c2⟩, d0, d1, d2⟩ := HX.o wc HBC.o; rw [HC.o]; clear hbc))
  all_goals
   simp only [List.getElem_toArray, List.getElem_cons_succ, List.getElem_cons_zero, Act.put, List.setIfInBounds_toArray, List.set_cons_succ, List.set_cons_zero]
   go_wp2_with (go_at_call 94; refine (l1Neg_ex _ _ _ _ _ _).mono ?_; rintro e w' ⟨rfl, rfl⟩; rw [HNA.o])
   go_ret
   exact ⟨ret_int (by rw [HC.o]), below_al (HB0.o.trans (HBC.o.mono (by omega))) _⟩
set_option maxRecDepth 100000 in
set_option maxHeartbeats 4000000 in
theorem l1Cmp_s2t (B : Nat) (x y : Int) (xn yn : Bool) (pa : Option Addr) (la ca : Nat) (pb : Option Addr) (lb cb : Nat) (na nb : Bool) (a b : List Nat) (w : World) (hBw : B ≤ w.heap.size) (hz : ((la : Int) == 0) = true) (hz2 : ((lb : Int) == 0) = false)
 (hza : IsZ B w (.agg #[.int .i64 x, .bool xn, .slice pa la ca]) na a) (hzb : IsZ B w (.agg #[.int .i64 y, .bool yn, .slice pb lb cb]) nb b) (ha : ngZ x xn la = true) (hb : ngZ y yn lb = true) :
 Calls Tryz.prog 50 #[.agg #[.int .i64 x, .bool xn, .slice pa la ca], .agg #[.int .i64 y, .bool yn, .slice pb lb cb]] w fun e w' => e = .returned (.int .i64 (-cmpL a b)) ∧ Up w w' := by
 have HNA := Hd ha; have HNB := Hd hb; obtain ⟨W0, hW0⟩ := exW ((w.alloc (.cells #[.int .i64 x, .bool xn, .slice pa la ca] 54)).alloc (.cells #[.int .i64 y, .bool yn, .slice pb lb cb] 54)); have HW0 := Hd hW0; have hb0 : Up w W0 := by rw [← hW0]; exact ((Below.refl _ w).alloc leR _).alloc (by simp) _
 have hz0 : W0.heap.size = w.heap.size + 2 := by rw [← hW0]; simp
 have hlt0 : w.heap.size < W0.heap.size := by omega
 have hlt1 : w.heap.size + 1 < W0.heap.size := by omega
 have HB0 := Hd hb0; have HZ0 := Hd hz0; have HZA : Hid (∀ W, Up W0 W → IsZ B W (.agg #[.int .i64 x, .bool xn, .slice pa la ca]) na a) := fun W hW => (hza.below hb0).below hW; have HZB : Hid (∀ W, Up W0 W → IsZ B W (.agg #[.int .i64 y, .bool yn, .slice pb lb cb]) nb b) := fun W hW => (hzb.below hb0).below hW; have HX : Hid (∀ W, Up W0 W → (W.cell? ⟨w.heap.size, 0, none⟩ = some (.int .i64 x) ∧ W.cell? ⟨w.heap.size, 1, none⟩ = some (.bool xn) ∧ W.cell? ⟨w.heap.size, 2, none⟩ = some (.slice pa la ca)) ∧
  (W.cell? ⟨w.heap.size + 1, 0, none⟩ = some (.int .i64 y) ∧ W.cell? ⟨w.heap.size + 1, 1, none⟩ = some (.bool yn) ∧ W.cell? ⟨w.heap.size + 1, 2, none⟩ = some (.slice pb lb cb))) := fun W hW => by
  refine ⟨⟨?_, ?_, ?_⟩, ?_, ?_, ?_⟩
  ·rw [hW.cell (p := ⟨w.heap.size, 0, none⟩) hlt0, ← hW0, World.cell?_alloc_past _ _ _ (by simp), World.cell?_alloc_at _ _ _ _ rfl]; rfl
  ·rw [hW.cell (p := ⟨w.heap.size, 1, none⟩) hlt0, ← hW0, World.cell?_alloc_past _ _ _ (by simp), World.cell?_alloc_at _ _ _ _ rfl]; rfl
  ·rw [hW.cell (p := ⟨w.heap.size, 2, none⟩) hlt0, ← hW0, World.cell?_alloc_past _ _ _ (by simp), World.cell?_alloc_at _ _ _ _ rfl]; rfl
  ·rw [hW.cell (p := ⟨w.heap.size + 1, 0, none⟩) hlt1, ← hW0, World.cell?_alloc_at _ _ _ _ (by simp)]; rfl
  ·rw [hW.cell (p := ⟨w.heap.size + 1, 1, none⟩) hlt1, ← hW0, World.cell?_alloc_at _ _ _ _ (by simp)]; rfl
  ·rw [hW.cell (p := ⟨w.heap.size + 1, 2, none⟩) hlt1, ← hW0, World.cell?_alloc_at _ _ _ _ (by simp)]; rfl
 obtain ⟨W1, hW1⟩ := exW ((((W0.alloc (.cells #[.int .i64 x, .bool xn, .slice pa la ca] 54)).alloc (.cells #[.int .i64 y, .bool yn, .slice pb lb cb] 54)).alloc (.cells #[.int .i64 x, .bool xn, .slice pa la ca] 54)).alloc (.cells #[.int .i64 y, .bool yn, .slice pb lb cb] 54)); have HW1 := Hd hW1; have HBW1 : Hid (Up W0 W1) := by rw [← hW1]; exact below_al (below_al (below_al (below_al (Below.refl _ _) _) _) _) _
 clear hW1; obtain ⟨⟨u0, u1, u2⟩, v0, v1, v2⟩ := HX.o W0 (Below.refl _ _); obtain ⟨c, hc⟩ := exW (cmpL a b); have HC := Hd hc; have hcb : -1 ≤ c ∧ c ≤ 1 := by rw [← hc]; exact cmpL_bd a b
 obtain ⟨hc1, hc2⟩ := hcb; clear ha hb hza hzb hb0 hz0 hW0 hc
 go_enter Tryz.func50, Tryz.ntmps50
 go_wp2_with fail
 rw [HW0.o]; refine (l1IsSmall_ex _ _ _ _ _ _).mono ?_; rintro e w' ⟨rfl, rfl⟩
 go_wp2_with (go_at_call 92; refine (l1IsSmall_ex _ _ _ _ _ _).mono ?_; rintro e w' ⟨rfl, rfl⟩)
 go_region_with (first | (go_at_call_of 94 (Value.int IntKind.i64 x); refine (l1Neg_ex _ _ _ _ _ _).mono ?_; rintro e w' ⟨rfl, rfl⟩; rw [HNA.o]) | (go_at_call_of 94 (Value.int IntKind.i64 y); refine (l1Neg_ex _ _ _ _ _ _).mono ?_; rintro e w' ⟨rfl, rfl⟩; rw [HNB.o]))
 all_goals
  go_wp2
  simp only [List.getElem_toArray, List.getElem_cons_succ, List.getElem_cons_zero, Act.put, List.setIfInBounds_toArray, List.set_cons_succ, List.set_cons_zero]; rw [HW1.o]; clear u0 u1 u2 v0 v1 v2; obtain ⟨⟨u0, u1, u2⟩, v0, v1, v2⟩ := HX.o W1 HBW1.o
  go_region_with (first
   | (go_at_call_of 93 (Value.int IntKind.i64 x); refine (l1Limbs_any B _ na a _ (HZA.o _ ?_) ?_).mono ?_
      ·exact HBW1.o.drew.drew
      ·have := HBW1.o.size; have := HZ0.o; show B ≤ W1.heap.size; omega
      rintro e wa ⟨va, rfl, hva, hba⟩; have HBA : Up W0 wa := HBW1.o.drew.drew.trans (hba.mono HBW1.o.size); obtain ⟨⟨a0, a1, a2⟩, b0, b1, b2⟩ := HX.o wa HBA; have HVA := Hd hva; have HBA' : Hid (Up W0 wa) := HBA; clear hva hba HBA)
   | (go_at_call_of 93 (Value.int IntKind.i64 y); refine (l1Limbs_any B _ nb b _ (HZB.o _ ?_) ?_).mono ?_
      ·exact HBA'.o
      ·have := HBA'.o.size; have := HZ0.o; omega
      rintro e wb ⟨vb, rfl, hvb, hbb⟩; have HBB : Hid (Up W0 wb) := HBA'.o.trans (hbb.mono HBA'.o.size); have HVB := Hd hvb; have HVA2 : Hid (IsL B wb va a) := HVA.o.below hbb; clear hvb hbb)
   | (go_at_call 97; refine (l1CmpD_any B va vb a b _ HVA2.o HVB.o).mono ?_
      rintro e wc ⟨rfl, hbc⟩; have HBC : Hid (Up W0 wc) := HBB.o.trans (hbc.mono HBB.o.size); obtain ⟨⟨c0, c1, c2⟩, d0, d1, d2⟩ := HX.o wc HBC.o; rw [HC.o]; clear hbc))
  all_goals
   simp only [List.getElem_toArray, List.getElem_cons_succ, List.getElem_cons_zero, Act.put, List.setIfInBounds_toArray, List.set_cons_succ, List.set_cons_zero]
   go_wp2_with (go_at_call 94; refine (l1Neg_ex _ _ _ _ _ _).mono ?_; rintro e w' ⟨rfl, rfl⟩; rw [HNA.o])
   go_ret
   exact ⟨ret_int (by rw [HC.o]), below_al (HB0.o.trans (HBC.o.mono (by omega))) _⟩
theorem cmpL_anti (a b : List Nat) (ha : okL a) (hb : okL b) (ta : isTrim a) (tb : isTrim b) : cmpL b a = -cmpL a b := by
 rw [cmpL_ord a b ha hb ta tb, cmpL_ord b a hb ha tb ta]; unfold ord
 split <;> split <;> (try split) <;> omega
theorem IsZ.form {B : Nat} {w : World} {z : Value} {na : Bool} {a : List Nat} (h : IsZ B w z na a) : ∃ x xn p l c, z = .agg #[.int .i64 x, .bool xn, .slice p l c] ∧ ngZ x xn l = negOf na a ∧ (l = 0 → z = .agg #[.int .i64 (sg na (val a)), .bool false, .slice none 0 0]) := by
 obtain ⟨h1, h2, h3⟩ := h
 rcases h3 with ⟨h3, v, rfl, p, c, rfl, _⟩ | ⟨h3, rfl⟩
 ·refine ⟨_, _, _, _, _, rfl, ?_, fun e => by omega⟩; unfold ngZ negOf; have : 0 < a.length := by omega
  simp [this]
 exact ⟨_, _, _, _, _, rfl, (negOf_small na a h3 h1 h2).symm, fun _ => rfl⟩
theorem l1Cmp_any (B : Nat) (za zb : Value) (na nb : Bool) (a b : List Nat) (w : World) (hBw : B ≤ w.heap.size) (hza : IsZ B w za na a) (hzb : IsZ B w zb nb b) :
 Calls Tryz.prog 50 #[za, zb] w fun e w' => e = .returned (.int .i64 (cmpI (negOf na a) (negOf nb b) a b)) ∧ Up w w' := by
 have hoa := hza.1; have hob := hzb.1; have hta := hza.2.1; have htb := hzb.2.1; obtain ⟨x, xn, pa, la, ca, rfl, fa, ga⟩ := hza.form; obtain ⟨y, yn, pb, lb, cb, rfl, fb, gb⟩ := hzb.form
 by_cases h0 : la = 0 ∧ lb = 0
 ·rw [ga h0.1, gb h0.2, cmpI_ord na nb a b hoa hob hta htb]; exact l1Cmp_small _ _ w
 have hz : ((la : Int) == 0) = false ∨ (((la : Int) == 0) = true ∧ ((lb : Int) == 0) = false) := by
  by_cases h : la = 0
  ·exact .inr ⟨by rw [beq_iff_eq]; omega, by rw [beq_eq_false_iff_ne]; omega⟩
  exact .inl (by rw [beq_eq_false_iff_ne]; omega)
 cases ea : negOf na a <;> cases eb : negOf nb b
 ·rw [ea] at fa; rw [eb] at fb
  show Calls _ _ _ _ fun e w' => e = .returned (.int .i64 (cmpL a b)) ∧ _
  rcases hz with hz | ⟨hz, hz2⟩
  ·exact l1Cmp_s1f B x y xn yn pa la ca pb lb cb na nb a b w hBw hz hza hzb fa fb
  exact l1Cmp_s2f B x y xn yn pa la ca pb lb cb na nb a b w hBw hz hz2 hza hzb fa fb
 ·rw [ea] at fa; rw [eb] at fb
  show Calls _ _ _ _ fun e w' => e = .returned (.int .i64 (1)) ∧ _
  rcases hz with hz | ⟨hz, hz2⟩
  ·exact l1Cmp_ft1 x y xn yn pa la ca pb lb cb w hz fa fb
  exact l1Cmp_ft2 x y xn yn pa la ca pb lb cb w hz hz2 fa fb
 ·rw [ea] at fa; rw [eb] at fb
  show Calls _ _ _ _ fun e w' => e = .returned (.int .i64 (-1)) ∧ _
  rcases hz with hz | ⟨hz, hz2⟩
  ·exact l1Cmp_tf1 x y xn yn pa la ca pb lb cb w hz fa fb
  exact l1Cmp_tf2 x y xn yn pa la ca pb lb cb w hz hz2 fa fb
 rw [ea] at fa; rw [eb] at fb
 show Calls _ _ _ _ fun e w' => e = .returned (.int .i64 (cmpL b a)) ∧ _
 rw [cmpL_anti a b hoa hob hta htb]
 rcases hz with hz | ⟨hz, hz2⟩
 ·exact l1Cmp_s1t B x y xn yn pa la ca pb lb cb na nb a b w hBw hz hza hzb fa fb
 exact l1Cmp_s2t B x y xn yn pa la ca pb lb cb na nb a b w hBw hz hz2 hza hzb fa fb
end Go.Proofs.YtfmpapcfhoomkaaGreatDoor
