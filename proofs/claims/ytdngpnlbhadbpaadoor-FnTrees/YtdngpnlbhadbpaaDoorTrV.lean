import Derived.Test.YtdngpnlbhadbpaaDoorTrW
namespace Go.Proofs.YtdngpnlbhadbpaaDoor
open Go.ChangeShapes Go.WideShapes Go.ChangeAt Go.RowKit
set_option maxRecDepth 100000 in
set_option maxHeartbeats 2000000 in
theorem l3Word_1 (s : ByteArray) (k0 q0 : Int) (w : World) :
    Calls Tryd.prog 35 #[.agg #[.int .i64 1, .string s, .int .i64 k0, .int .i64 q0]] w fun e w' => e = .returned (.bool (wordOk 1 s.data.toList)) ∧ Below w.heap.size w w' := by
  have F : Hid (wordOk 1 s.data.toList = s.toList.isEmpty) := by show s.data.toList.isEmpty = _; rw [ByteArray.toList_eq]
  go_enter Tryd.func35, Tryd.ntmps35
  go_wp2_with fail
  all_goals go_ret
  all_goals exact ⟨ret_bool F.out.symm, below_alloc _ _⟩
theorem wordOk_other {k : Int} (h : k < 1 ∨ 7 < k) (t : List UInt8) : wordOk k t = false := by
  unfold wordOk
  rw [if_neg (by omega), if_neg (by omega), if_neg (by omega), if_neg (by omega), if_neg (by omega), if_neg (by omega), if_neg (by omega)]
set_option maxRecDepth 100000 in
set_option maxHeartbeats 2000000 in
theorem l3Word_other (k : Int) (s : ByteArray) (k0 q0 : Int) (w : World) (h : k < 1 ∨ 7 < k) :
    Calls Tryd.prog 35 #[.agg #[.int .i64 k, .string s, .int .i64 k0, .int .i64 q0]] w fun e w' => e = .returned (.bool (wordOk k s.data.toList)) ∧ Below w.heap.size w w' := by
  have F : Hid (wordOk k s.data.toList = false) := wordOk_other h _
  have e1 : (k == 1) = false := by rw [beq_eq_false_iff_ne]; omega
  have e2 : (k == 2) = false := by rw [beq_eq_false_iff_ne]; omega
  have e3 : (k == 3) = false := by rw [beq_eq_false_iff_ne]; omega
  have e4 : (k == 4) = false := by rw [beq_eq_false_iff_ne]; omega
  have e5 : (k == 5) = false := by rw [beq_eq_false_iff_ne]; omega
  have e6 : (k == 6) = false := by rw [beq_eq_false_iff_ne]; omega
  have e7 : (k == 7) = false := by rw [beq_eq_false_iff_ne]; omega
  clear h
  go_enter Tryd.func35, Tryd.ntmps35
  go_wp2_with fail
  go_ret
  exact ⟨ret_bool F.out.symm, below_alloc _ _⟩
end Go.Proofs.YtdngpnlbhadbpaaDoor
