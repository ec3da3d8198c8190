import Derived.Test.YtpimiboiogfhbaaM2
import Derived.Test.YtpimiboiogfhbaaReadSpec
import Derived.Test.YtpimiboiogfhbaaPair
import Derived.Deep.RegionWith
namespace Go.Proofs.Ytpimiboiogfhbaa
open Go.ChangeShapes Go.WideShapes Go.ChangeAt Go.RowKit
def ngZ (z0 : Int) (zn : Bool) (zl : Nat) : Bool := if 0 < zl then zn else decide (z0 < 0)
set_option maxHeartbeats 400000 in
theorem l1Neg_ex (z0 : Int) (zn : Bool) (za : Option Addr) (zl zc : Nat) (w : World) :
    Calls Try.prog 23 #[.agg #[.int .i64 z0, .bool zn, .slice za zl zc]] w fun e w' => e = .returned (.bool (ngZ z0 zn zl)) ∧ w' = w.alloc (.cells #[.int .i64 z0, .bool zn, .slice za zl zc] 41) := by
  by_cases h : 0 < zl
  · have HR : Hid (ngZ z0 zn zl = zn) := if_pos h
    go_enter Try.func23, Try.ntmps23
    go_wp2
    go_ret
    exact ⟨by rw [HR.out]; rfl, rfl⟩
  · have HR : Hid (ngZ z0 zn zl = decide (z0 < 0)) := if_neg h
    go_enter Try.func23, Try.ntmps23
    go_wp2
    go_ret
    exact ⟨by rw [HR.out]; rfl, rfl⟩
theorem below_al {w W : World} (h : Below w.heap.size w W) (o : Obj) : Below w.heap.size w (W.alloc o) := h.alloc h.size o
theorem cmpL_bd (a b : List Nat) : -1 ≤ cmpL a b ∧ cmpL a b ≤ 1 := by
  have h : ∀ k, -1 ≤ cmpTop a b k ∧ cmpTop a b k ≤ 1 := fun k => by
    induction k with
    | zero => simp [cmpTop]
    | succ k ih => simp only [cmpTop]; split <;> (try split) <;> omega
  have := h a.length
  unfold cmpL
  split <;> (try split) <;> omega
end Go.Proofs.Ytpimiboiogfhbaa
