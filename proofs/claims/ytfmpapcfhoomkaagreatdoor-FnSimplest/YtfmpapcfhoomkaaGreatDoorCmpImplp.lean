import Derived.Test.YtfmpapcfhoomkaaGreatDoorM6p
import Derived.Test.YtfmpapcfhoomkaaGreatDoorM2p
import Derived.Test.YtfmpapcfhoomkaaGreatDoorPairp
namespace Go.Proofs.YtfmpapcfhoomkaaGreatDoor
open Go.ChangeShapes Go.WideShapes Go.ChangeAt Go.RowKit
theorem field_ord (x z : Int) (y : Bool) (w : World) : (Instr.field 99 (.agg #[.int .i64 x, .bool y, .int .i64 z]) 2).run Tryz.prog w = .ok (.int .i64 z) w := by kernel_rfl
set_option maxRecDepth 100000 in
set_option maxHeartbeats 1000000 in
theorem compare_any (B : Nat) (na nb : Bool) (va vb : Value) (a b : List Nat) (w : World) (ha : IsL B w va a) (hb : IsL B w vb b) (h : SP w) :
 Calls Tryz.prog 42 #[.agg #[.bool na, va], .agg #[.bool nb, vb]] w fun e w' => e = .returned (.int .i64 (cmpI na nb a b)) ∧ Up w w' := by
 obtain ⟨pa, ca, rfl, _⟩ := id ha; obtain ⟨pb, cb, rfl, _⟩ := id hb; obtain ⟨W0, hW0⟩ := exW ((w.alloc (.cells #[.bool na, .slice pa a.length ca] 46)).alloc (.cells #[.bool nb, .slice pb b.length cb] 46)); have HW0 := Hd hW0; have hb0 : Up w W0 := by rw [← hW0]; exact ((Below.refl _ w).alloc leR _).alloc (by simp) _
 have hz0 : W0.heap.size = w.heap.size + 2 := by rw [← hW0]; simp
 have HA : Hid (IsL B W0 (.slice pa a.length ca) a) := ha.below hb0; have HB : Hid (IsL B W0 (.slice pb b.length cb) b) := hb.below hb0; have HS : Hid (SP W0) := h.below hb0; have HB0 := Hd hb0; have HX : Hid (∀ W, Up W0 W → W.cell? ⟨w.heap.size, 0, none⟩ = some (.bool na) ∧ W.cell? ⟨w.heap.size, 1, none⟩ = some (.slice pa a.length ca) ∧ W.cell? ⟨w.heap.size + 1, 1, none⟩ = some (.slice pb b.length cb)) := fun W hW => by
  refine ⟨?_, ?_, ?_⟩
  ·rw [hW.cell (p := ⟨w.heap.size, 0, none⟩) (by show w.heap.size < _; omega), ← hW0, World.cell?_alloc_past _ _ _ (by simp), World.cell?_alloc_at _ _ _ _ rfl]; rfl
  ·rw [hW.cell (p := ⟨w.heap.size, 1, none⟩) (by show w.heap.size < _; omega), ← hW0, World.cell?_alloc_past _ _ _ (by simp), World.cell?_alloc_at _ _ _ _ rfl]; rfl
  rw [hW.cell (p := ⟨w.heap.size + 1, 1, none⟩) (by show w.heap.size + 1 < _; omega), ← hW0, World.cell?_alloc_at _ _ _ _ (by simp)]; rfl
 clear ha hb h hb0 hW0; have hfd := field_ord
 go_enter Tryz.func42, Tryz.ntmps42
 go_wp2_with fail
 rw [HW0.o]; refine (signsOf_any na nb pa a.length ca pb b.length cb W0 HS.o).mono ?_; rintro e w1 ⟨rfl, hb1⟩; obtain ⟨x0, x1, x2⟩ := HX.o w1 hb1; have HA1 : Hid (IsL B w1 (.slice pa a.length ca) a) := HA.o.below hb1; have HB1 : Hid (IsL B w1 (.slice pb b.length cb) b) := HB.o.below hb1; have HE1 : Hid (Up w w1) := HB0.o.trans (hb1.mono (by omega)); clear hb1 HA HB HS HX
 cases na <;> cases nb
 case' _ =>
  have HR : Hid (cmpI false false a b = cmpL a b) := rfl; simp only [sgOrd, sgSum, if_true]
  go_wp2_with fail
  refine (compareLimbs_any B _ _ a b _ HA1.o HB1.o).mono ?_
 rotate_left
 ·have HR : Hid (cmpI false true a b = 1) := rfl; simp only [sgOrd, sgSum]
  go_wp2
  go_ret
  exact ⟨ret_int HR.o.symm, HE1.o⟩
 ·have HR : Hid (cmpI true false a b = -1) := rfl; simp only [sgOrd, sgSum]
  go_wp2
  go_ret
  exact ⟨ret_int HR.o.symm, HE1.o⟩
 case' _ =>
  have HR : Hid (cmpI true true a b = cmpL b a) := rfl; simp only [sgOrd, sgSum, if_true]
  go_wp2_with fail
  refine (compareLimbs_any B _ _ b a _ HB1.o HA1.o).mono ?_
 rotate_left
 all_goals
  rintro e w2 ⟨rfl, hb2⟩; have HE2 : Hid (Up w w2) := HE1.o.trans (hb2.mono HE1.o.size); clear hb2
  go_wp2
  go_ret
  exact ⟨ret_int HR.o.symm, HE2.o⟩
end Go.Proofs.YtfmpapcfhoomkaaGreatDoor
