import Derived.Test.YtdngpnlbhadbpaaDoorTrYa
namespace Go.Proofs.YtdngpnlbhadbpaaDoor
open Go.ChangeShapes Go.WideShapes Go.ChangeAt Go.RowKit
set_option maxRecDepth 100000 in
set_option maxHeartbeats 2000000 in
theorem tokenText_1 (s : ByteArray) (k0 q0 : Int) (w : World) (_hs : s.size ≤ 20000) :
    Calls Tryd.prog 40 #[.agg #[.int .i64 1, .string s, .int .i64 k0, .int .i64 q0]] w fun e w' => e = .returned (.string (strOf (tokT 1 s.data.toList))) ∧ Below w.heap.size w w' := by
  go_enter Tryd.func40, Tryd.ntmps40
  go_wp2_with fail
  go_ret
  exact ⟨rfl, below_alloc _ _⟩
set_option maxRecDepth 100000 in
set_option maxHeartbeats 2000000 in
theorem tokenText_2 (s : ByteArray) (k0 q0 : Int) (w : World) (hs : s.size ≤ 20000) :
    Calls Tryd.prog 40 #[.agg #[.int .i64 2, .string s, .int .i64 k0, .int .i64 q0]] w fun e w' => e = .returned (.string (strOf (tokT 2 s.data.toList))) ∧ Below w.heap.size w w' := by
  go_enter Tryd.func40, Tryd.ntmps40
  go_wp2_with (go_at_call 59; refine (nameText_any _ _ hs).mono ?_; rintro e w' ⟨rfl, rfl⟩)
  go_ret
  exact ⟨rfl, below_alloc _ _⟩
set_option maxRecDepth 100000 in
set_option maxHeartbeats 2000000 in
theorem tokenText_5 (s : ByteArray) (k0 q0 : Int) (w : World) (hs : s.size ≤ 20000) :
    Calls Tryd.prog 40 #[.agg #[.int .i64 5, .string s, .int .i64 k0, .int .i64 q0]] w fun e w' => e = .returned (.string (strOf (tokT 5 s.data.toList))) ∧ Below w.heap.size w w' := by
  go_enter Tryd.func40, Tryd.ntmps40
  go_wp2_with fail
  go_ret
  exact ⟨by rw [strOf_bits]; rfl, below_alloc _ _⟩
set_option maxRecDepth 100000 in
set_option maxHeartbeats 2000000 in
theorem tokenText_7 (s : ByteArray) (k0 q0 : Int) (w : World) (hs : s.size ≤ 20000) :
    Calls Tryd.prog 40 #[.agg #[.int .i64 7, .string s, .int .i64 k0, .int .i64 q0]] w fun e w' => e = .returned (.string (strOf (tokT 7 s.data.toList))) ∧ Below w.heap.size w w' := by
  go_enter Tryd.func40, Tryd.ntmps40
  go_wp2_with fail
  go_ret
  exact ⟨by rw [strOf_key]; rfl, below_alloc _ _⟩
set_option maxRecDepth 100000 in
set_option maxHeartbeats 2000000 in
theorem tokenText_3 (s : ByteArray) (k0 q0 : Int) (w : World) (_hs : s.size ≤ 20000) :
    Calls Tryd.prog 40 #[.agg #[.int .i64 3, .string s, .int .i64 k0, .int .i64 q0]] w fun e w' => e = .returned (.string (strOf (tokT 3 s.data.toList))) ∧ Below w.heap.size w w' := by
  go_enter Tryd.func40, Tryd.ntmps40
  go_wp2_with fail
  go_ret
  exact ⟨by rw [show tokT 3 s.data.toList = s.data.toList from rfl, strOf_data] <;> rfl, below_alloc _ _⟩
set_option maxRecDepth 100000 in
set_option maxHeartbeats 2000000 in
theorem tokenText_4 (s : ByteArray) (k0 q0 : Int) (w : World) (_hs : s.size ≤ 20000) :
    Calls Tryd.prog 40 #[.agg #[.int .i64 4, .string s, .int .i64 k0, .int .i64 q0]] w fun e w' => e = .returned (.string (strOf (tokT 4 s.data.toList))) ∧ Below w.heap.size w w' := by
  go_enter Tryd.func40, Tryd.ntmps40
  go_wp2_with fail
  go_ret
  exact ⟨by rw [show tokT 4 s.data.toList = s.data.toList from rfl, strOf_data] <;> rfl, below_alloc _ _⟩
theorem tokT_other {k : Int} (h : k < 1 ∨ 7 < k) (t : List UInt8) : tokT k t = [] := by
  unfold tokT
  rw [if_neg (by omega), if_neg (by omega), if_neg (by omega), if_neg (by omega), if_neg (by omega), if_neg (by omega)]
set_option maxRecDepth 100000 in
set_option maxHeartbeats 2000000 in
theorem tokenText_other (k : Int) (s : ByteArray) (k0 q0 : Int) (w : World) (h : k < 1 ∨ 7 < k) :
    Calls Tryd.prog 40 #[.agg #[.int .i64 k, .string s, .int .i64 k0, .int .i64 q0]] w fun e w' => e = .returned (.string (strOf (tokT k s.data.toList))) ∧ Below w.heap.size w w' := by
  have F : Hid (Ending.returned (.string ⟨#[]⟩) = .returned (.string (strOf (tokT k s.data.toList)))) := by unfold Hid; rw [tokT_other h]; rfl
  have e1 : (k == 1) = false := by rw [beq_eq_false_iff_ne]; omega
  have e2 : (k == 2) = false := by rw [beq_eq_false_iff_ne]; omega
  have e3 : (k == 3) = false := by rw [beq_eq_false_iff_ne]; omega
  have e4 : (k == 4) = false := by rw [beq_eq_false_iff_ne]; omega
  have e5 : (k == 5) = false := by rw [beq_eq_false_iff_ne]; omega
  have e6 : (k == 6) = false := by rw [beq_eq_false_iff_ne]; omega
  have e7 : (k == 7) = false := by rw [beq_eq_false_iff_ne]; omega
  clear h
  go_enter Tryd.func40, Tryd.ntmps40
  go_wp2_with fail
  go_ret
  exact ⟨F.out, below_alloc _ _⟩
end Go.Proofs.YtdngpnlbhadbpaaDoor
