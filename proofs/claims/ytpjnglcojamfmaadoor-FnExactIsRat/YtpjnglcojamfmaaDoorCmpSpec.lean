import Derived.Test.YtpjnglcojamfmaaDoorM2
import Derived.Test.YtpjnglcojamfmaaDoorReadSpec
import Derived.Test.YtpjnglcojamfmaaDoorPair
import Derived.Deep.RegionWith
namespace Go.Proofs.YtpjnglcojamfmaaDoor
open Go.ChangeShapes Go.WideShapes Go.ChangeAt Go.RowKit
def ngZ (z0 : Int) (zn : Bool) (zl : Nat) : Bool := if 0 < zl then zn else decide (z0 < 0)
set_option maxHeartbeats 400000 in
theorem l1IsSmall_ex (z0 : Int) (zn : Bool) (za : Option Addr) (zl zc : Nat) (w : World) :
    Calls Tryd.prog 13 #[.agg #[.int .i64 z0, .bool zn, .slice za zl zc]] w fun e w' => e = .returned (.bool ((zl : Int) == 0)) ∧ w' = w.alloc (.cells #[.int .i64 z0, .bool zn, .slice za zl zc] 28) := by
  go_enter Tryd.func13, Tryd.ntmps13
  go_wp2
  go_ret
  exact ⟨rfl, rfl⟩
set_option maxHeartbeats 400000 in
theorem l1Neg_ex (z0 : Int) (zn : Bool) (za : Option Addr) (zl zc : Nat) (w : World) :
    Calls Tryd.prog 37 #[.agg #[.int .i64 z0, .bool zn, .slice za zl zc]] w fun e w' => e = .returned (.bool (ngZ z0 zn zl)) ∧ w' = w.alloc (.cells #[.int .i64 z0, .bool zn, .slice za zl zc] 28) := by
  by_cases h : 0 < zl
  · have HR : Hid (ngZ z0 zn zl = zn) := if_pos h
    go_enter Tryd.func37, Tryd.ntmps37
    go_wp2
    go_ret
    exact ⟨by rw [HR.out]; rfl, rfl⟩
  · have HR : Hid (ngZ z0 zn zl = decide (z0 < 0)) := if_neg h
    go_enter Tryd.func37, Tryd.ntmps37
    go_wp2
    go_ret
    exact ⟨by rw [HR.out]; rfl, rfl⟩
set_option maxRecDepth 100000 in
set_option maxHeartbeats 1000000 in
theorem l1Cmp_small (x y : Int) (w : World) :
    Calls Tryd.prog 50 #[.agg #[.int .i64 x, .bool false, .slice none 0 0], .agg #[.int .i64 y, .bool false, .slice none 0 0]] w fun e w' => e = .returned (.int .i64 (ordI x y)) ∧ Below w.heap.size w w' := by
  by_cases h1 : x < y
  · have HR : Hid (ordI x y = -1) := if_pos h1
    go_enter Tryd.func50, Tryd.ntmps50
    go_wp2_with (go_at_call 13; refine (l1IsSmall_ex _ _ _ _ _ _).mono ?_; rintro e w' ⟨rfl, rfl⟩)
    go_ret
    exact ⟨ret_int HR.out.symm, (((((Below.refl _ w).alloc (Nat.le_refl _) _).alloc (by simp) _).alloc (by simp; omega) _).alloc (by simp; omega) _)⟩
  · by_cases h2 : y < x
    · have HR : Hid (ordI x y = 1) := (if_neg h1).trans (if_pos h2)
      go_enter Tryd.func50, Tryd.ntmps50
      go_wp2_with (go_at_call 13; refine (l1IsSmall_ex _ _ _ _ _ _).mono ?_; rintro e w' ⟨rfl, rfl⟩)
      go_ret
      exact ⟨ret_int HR.out.symm, (((((Below.refl _ w).alloc (Nat.le_refl _) _).alloc (by simp) _).alloc (by simp; omega) _).alloc (by simp; omega) _)⟩
    · have HR : Hid (ordI x y = 0) := (if_neg h1).trans (if_neg h2)
      go_enter Tryd.func50, Tryd.ntmps50
      go_wp2_with (go_at_call 13; refine (l1IsSmall_ex _ _ _ _ _ _).mono ?_; rintro e w' ⟨rfl, rfl⟩)
      go_ret
      exact ⟨ret_int HR.out.symm, (((((Below.refl _ w).alloc (Nat.le_refl _) _).alloc (by simp) _).alloc (by simp; omega) _).alloc (by simp; omega) _)⟩
theorem below_al {w W : World} (h : Below w.heap.size w W) (o : Obj) : Below w.heap.size w (W.alloc o) := h.alloc h.size o
theorem cmpL_bd (a b : List Nat) : -1 ≤ cmpL a b ∧ cmpL a b ≤ 1 := by
  have h : ∀ k, -1 ≤ cmpTop a b k ∧ cmpTop a b k ≤ 1 := fun k => by
    induction k with
    | zero => simp [cmpTop]
    | succ k ih => simp only [cmpTop]; split <;> (try split) <;> omega
  have := h a.length
  unfold cmpL
  split <;> (try split) <;> omega
end Go.Proofs.YtpjnglcojamfmaaDoor
