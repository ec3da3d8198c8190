import Derived.Test.YtfmpapcfhoomkaaGreatDoorM2p
import Derived.Test.YtfmpapcfhoomkaaGreatDoorReadSpecp
import Derived.Test.YtfmpapcfhoomkaaGreatDoorPairp
import Derived.Deep.RegionWith
namespace Go.Proofs.YtfmpapcfhoomkaaGreatDoor
open Go.ChangeShapes Go.WideShapes Go.ChangeAt Go.RowKit
def ngZ (z0 : Int) (zn : Bool) (zl : Nat) : Bool := if 0 < zl then zn else decide (z0 < 0)
set_option maxHeartbeats 400000 in
theorem l1IsSmall_ex (z0 : Int) (zn : Bool) (za : Option Addr) (zl zc : Nat) (w : World) :
 Calls Tryz.prog 92 #[.agg #[.int .i64 z0, .bool zn, .slice za zl zc]] w fun e w' => e = .returned (.bool ((zl : Int) == 0)) ∧ w' = w.alloc (.cells #[.int .i64 z0, .bool zn, .slice za zl zc] 54) := by
 go_enter Tryz.func92, Tryz.ntmps92
 go_wp2
 go_ret
 exact ⟨rfl, rfl⟩
set_option maxHeartbeats 400000 in
theorem l1Neg_ex (z0 : Int) (zn : Bool) (za : Option Addr) (zl zc : Nat) (w : World) :
 Calls Tryz.prog 94 #[.agg #[.int .i64 z0, .bool zn, .slice za zl zc]] w fun e w' => e = .returned (.bool (ngZ z0 zn zl)) ∧ w' = w.alloc (.cells #[.int .i64 z0, .bool zn, .slice za zl zc] 54) := by
 by_cases h : 0 < zl
 ·have HR : Hid (ngZ z0 zn zl = zn) := if_pos h
  go_enter Tryz.func94, Tryz.ntmps94
  go_wp2
  go_ret
  exact ⟨by rw [HR.o]; rfl, rfl⟩
 have HR : Hid (ngZ z0 zn zl = decide (z0 < 0)) := if_neg h
 go_enter Tryz.func94, Tryz.ntmps94
 go_wp2
 go_ret
 exact ⟨by rw [HR.o]; rfl, rfl⟩
set_option maxRecDepth 100000 in
set_option maxHeartbeats 1000000 in
theorem l1Cmp_small (x y : Int) (w : World) :
 Calls Tryz.prog 50 #[.agg #[.int .i64 x, .bool false, .slice none 0 0], .agg #[.int .i64 y, .bool false, .slice none 0 0]] w fun e w' => e = .returned (.int .i64 (ordI x y)) ∧ Up w w' := by
 by_cases h1 : x < y
 ·have HR : Hid (ordI x y = -1) := if_pos h1
  go_enter Tryz.func50, Tryz.ntmps50
  go_wp2_with (go_at_call 92; refine (l1IsSmall_ex _ _ _ _ _ _).mono ?_; rintro e w' ⟨rfl, rfl⟩)
  go_ret
  exact ⟨ret_int HR.o.symm, (((((Below.refl _ w).alloc leR _).alloc (by simp) _).alloc (by simp; omega) _).alloc (by simp; omega) _)⟩
 by_cases h2 : y < x
 case' pos =>
  have HR : Hid (ordI x y = 1) := (if_neg h1).trans (if_pos h2)
 case' neg =>
  have HR : Hid (ordI x y = 0) := (if_neg h1).trans (if_neg h2)
 all_goals
  go_enter Tryz.func50, Tryz.ntmps50
  go_wp2_with (go_at_call 92; refine (l1IsSmall_ex _ _ _ _ _ _).mono ?_; rintro e w' ⟨rfl, rfl⟩)
  go_ret
  exact ⟨ret_int HR.o.symm, (((((Below.refl _ w).alloc leR _).alloc (by simp) _).alloc (by simp; omega) _).alloc (by simp; omega) _)⟩
theorem below_al {w W : World} (h : Up w W) (o : Obj) : Up w (W.alloc o) := h.alloc h.size o
theorem cmpL_bd (a b : List Nat) : -1 ≤ cmpL a b ∧ cmpL a b ≤ 1 := by
 have h : ∀ k, -1 ≤ cmpTop a b k ∧ cmpTop a b k ≤ 1 := fun k => by
  induction k with
  | zero => simp [cmpTop]
  | succ k ih => simp only [cmpTop]; split <;> (try split) <;> omega
 have := h a.length; unfold cmpL
 split <;> (try split) <;> omega
end Go.Proofs.YtfmpapcfhoomkaaGreatDoor
