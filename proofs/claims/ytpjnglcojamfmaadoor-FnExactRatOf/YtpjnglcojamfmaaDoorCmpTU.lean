import Derived.Test.YtpjnglcojamfmaaDoorCmpSpec
namespace Go.Proofs.YtpjnglcojamfmaaDoor
open Go.ChangeShapes Go.WideShapes Go.ChangeAt Go.RowKit
set_option maxRecDepth 100000 in
set_option maxHeartbeats 2000000 in
theorem l1Cmp_tf1 (x y : Int) (xn yn : Bool) (pa : Option Addr) (la ca : Nat) (pb : Option Addr) (lb cb : Nat) (w : World) (hz : ((la : Int) == 0) = false) (ha : ngZ x xn la = true) (hb : ngZ y yn lb = false) :
    Calls Tryd.prog 50 #[.agg #[.int .i64 x, .bool xn, .slice pa la ca], .agg #[.int .i64 y, .bool yn, .slice pb lb cb]] w fun e w' => e = .returned (.int .i64 (-1)) ∧ Below w.heap.size w w' := by
  have HNA : Hid (ngZ x xn la = true) := ha
  have HNB : Hid (ngZ y yn lb = false) := hb
  clear ha hb
  go_enter Tryd.func50, Tryd.ntmps50
  go_wp2_with (go_at_call 13; refine (l1IsSmall_ex _ _ _ _ _ _).mono ?_; rintro e w' ⟨rfl, rfl⟩)
  go_region_with (first | (go_at_call_of 37 (Value.int IntKind.i64 x); refine (l1Neg_ex _ _ _ _ _ _).mono ?_; rintro e w' ⟨rfl, rfl⟩; rw [HNA.out]) | (go_at_call_of 37 (Value.int IntKind.i64 y); refine (l1Neg_ex _ _ _ _ _ _).mono ?_; rintro e w' ⟨rfl, rfl⟩; rw [HNB.out]))
  all_goals
    go_wp2_with (go_at_call 37; refine (l1Neg_ex _ _ _ _ _ _).mono ?_; rintro e w' ⟨rfl, rfl⟩; rw [HNA.out])
    go_ret
    exact ⟨rfl, by repeat (first | exact Below.refl _ _ | refine Below.drew ?_ | refine below_al ?_ _)⟩
set_option maxRecDepth 100000 in
set_option maxHeartbeats 2000000 in
theorem l1Cmp_ft1 (x y : Int) (xn yn : Bool) (pa : Option Addr) (la ca : Nat) (pb : Option Addr) (lb cb : Nat) (w : World) (hz : ((la : Int) == 0) = false) (ha : ngZ x xn la = false) (hb : ngZ y yn lb = true) :
    Calls Tryd.prog 50 #[.agg #[.int .i64 x, .bool xn, .slice pa la ca], .agg #[.int .i64 y, .bool yn, .slice pb lb cb]] w fun e w' => e = .returned (.int .i64 (1)) ∧ Below w.heap.size w w' := by
  have HNA : Hid (ngZ x xn la = false) := ha
  have HNB : Hid (ngZ y yn lb = true) := hb
  clear ha hb
  go_enter Tryd.func50, Tryd.ntmps50
  go_wp2_with (go_at_call 13; refine (l1IsSmall_ex _ _ _ _ _ _).mono ?_; rintro e w' ⟨rfl, rfl⟩)
  go_region_with (first | (go_at_call_of 37 (Value.int IntKind.i64 x); refine (l1Neg_ex _ _ _ _ _ _).mono ?_; rintro e w' ⟨rfl, rfl⟩; rw [HNA.out]) | (go_at_call_of 37 (Value.int IntKind.i64 y); refine (l1Neg_ex _ _ _ _ _ _).mono ?_; rintro e w' ⟨rfl, rfl⟩; rw [HNB.out]))
  all_goals
    go_wp2_with (go_at_call 37; refine (l1Neg_ex _ _ _ _ _ _).mono ?_; rintro e w' ⟨rfl, rfl⟩; rw [HNA.out])
    go_ret
    exact ⟨rfl, by repeat (first | exact Below.refl _ _ | refine Below.drew ?_ | refine below_al ?_ _)⟩
end Go.Proofs.YtpjnglcojamfmaaDoor
namespace Go.Proofs.YtpjnglcojamfmaaDoor
open Go.ChangeShapes Go.WideShapes Go.ChangeAt Go.RowKit
set_option maxRecDepth 100000 in
set_option maxHeartbeats 2000000 in
theorem l1Cmp_tf2 (x y : Int) (xn yn : Bool) (pa : Option Addr) (la ca : Nat) (pb : Option Addr) (lb cb : Nat) (w : World) (hz : ((la : Int) == 0) = true) (hz2 : ((lb : Int) == 0) = false) (ha : ngZ x xn la = true) (hb : ngZ y yn lb = false) :
    Calls Tryd.prog 50 #[.agg #[.int .i64 x, .bool xn, .slice pa la ca], .agg #[.int .i64 y, .bool yn, .slice pb lb cb]] w fun e w' => e = .returned (.int .i64 (-1)) ∧ Below w.heap.size w w' := by
  have HNA : Hid (ngZ x xn la = true) := ha
  have HNB : Hid (ngZ y yn lb = false) := hb
  clear ha hb
  go_enter Tryd.func50, Tryd.ntmps50
  go_wp2_with (go_at_call 13; refine (l1IsSmall_ex _ _ _ _ _ _).mono ?_; rintro e w' ⟨rfl, rfl⟩)
  go_region_with (first | (go_at_call_of 37 (Value.int IntKind.i64 x); refine (l1Neg_ex _ _ _ _ _ _).mono ?_; rintro e w' ⟨rfl, rfl⟩; rw [HNA.out]) | (go_at_call_of 37 (Value.int IntKind.i64 y); refine (l1Neg_ex _ _ _ _ _ _).mono ?_; rintro e w' ⟨rfl, rfl⟩; rw [HNB.out]))
  all_goals
    go_wp2_with (go_at_call 37; refine (l1Neg_ex _ _ _ _ _ _).mono ?_; rintro e w' ⟨rfl, rfl⟩; rw [HNA.out])
    go_ret
    exact ⟨rfl, by repeat (first | exact Below.refl _ _ | refine Below.drew ?_ | refine below_al ?_ _)⟩
set_option maxRecDepth 100000 in
set_option maxHeartbeats 2000000 in
theorem l1Cmp_ft2 (x y : Int) (xn yn : Bool) (pa : Option Addr) (la ca : Nat) (pb : Option Addr) (lb cb : Nat) (w : World) (hz : ((la : Int) == 0) = true) (hz2 : ((lb : Int) == 0) = false) (ha : ngZ x xn la = false) (hb : ngZ y yn lb = true) :
    Calls Tryd.prog 50 #[.agg #[.int .i64 x, .bool xn, .slice pa la ca], .agg #[.int .i64 y, .bool yn, .slice pb lb cb]] w fun e w' => e = .returned (.int .i64 (1)) ∧ Below w.heap.size w w' := by
  have HNA : Hid (ngZ x xn la = false) := ha
  have HNB : Hid (ngZ y yn lb = true) := hb
  clear ha hb
  go_enter Tryd.func50, Tryd.ntmps50
  go_wp2_with (go_at_call 13; refine (l1IsSmall_ex _ _ _ _ _ _).mono ?_; rintro e w' ⟨rfl, rfl⟩)
  go_region_with (first | (go_at_call_of 37 (Value.int IntKind.i64 x); refine (l1Neg_ex _ _ _ _ _ _).mono ?_; rintro e w' ⟨rfl, rfl⟩; rw [HNA.out]) | (go_at_call_of 37 (Value.int IntKind.i64 y); refine (l1Neg_ex _ _ _ _ _ _).mono ?_; rintro e w' ⟨rfl, rfl⟩; rw [HNB.out]))
  all_goals
    go_wp2_with (go_at_call 37; refine (l1Neg_ex _ _ _ _ _ _).mono ?_; rintro e w' ⟨rfl, rfl⟩; rw [HNA.out])
    go_ret
    exact ⟨rfl, by repeat (first | exact Below.refl _ _ | refine Below.drew ?_ | refine below_al ?_ _)⟩
end Go.Proofs.YtpjnglcojamfmaaDoor
