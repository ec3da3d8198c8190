import Derived.Test.YtdngpnlbhadbpaaDoorTrS
namespace Go.Proofs.YtdngpnlbhadbpaaDoor
open Go.ChangeShapes Go.WideShapes Go.ChangeAt Go.RowKit
theorem strOf_bits (s : ByteArray) : (⟨#[35, 98]⟩ ++ s : ByteArray) = strOf (35 :: 98 :: s.data.toList) := by
  apply ByteArray.ext; apply Array.ext'; simp [strOf]
theorem strOf_key (s : ByteArray) : (⟨#[58]⟩ ++ s : ByteArray) = strOf (58 :: s.data.toList) := by
  apply ByteArray.ext; apply Array.ext'; simp [strOf]
set_option maxRecDepth 100000 in
set_option maxHeartbeats 2000000 in
theorem l3Written_2 (s : ByteArray) (k0 q0 : Int) (w : World) (hs : s.size ≤ 20000) :
    Calls Tryd.prog 36 #[.agg #[.int .i64 2, .string s, .int .i64 k0, .int .i64 q0]] w fun e w' => e = .returned (.string (strOf (tokT 2 s.data.toList))) ∧ Below w.heap.size w w' := by
  have hm : s.size ≤ maxLen := by unfold maxLen; omega
  obtain ⟨c0, c1, _, _⟩ := (bx_new w [.int .i64 2, .string s, .int .i64 k0, .int .i64 q0] 31).c4
  by_cases h : plainN s.data.toList = true
  · go_enter Tryd.func36, Tryd.ntmps36
    go_wp2_with (go_at_call 57; refine (l3Plain_any _ _ hm).mono ?_; rintro e w' ⟨rfl, rfl⟩)
    go_ret
    exact ⟨tokT_plain h, below_alloc _ _⟩
  · have h' : plainN s.data.toList = false := by simpa using h
    clear h
    go_enter Tryd.func36, Tryd.ntmps36
    go_wp2_with (go_at_call 57; refine (l3Plain_any _ _ hm).mono ?_; rintro e w' ⟨rfl, rfl⟩)
    go_ret
    exact ⟨tokT_bars h', below_alloc _ _⟩
set_option maxRecDepth 100000 in
set_option maxHeartbeats 2000000 in
theorem l3Written_5 (s : ByteArray) (k0 q0 : Int) (w : World) (hs : s.size ≤ 20000) :
    Calls Tryd.prog 36 #[.agg #[.int .i64 5, .string s, .int .i64 k0, .int .i64 q0]] w fun e w' => e = .returned (.string (strOf (tokT 5 s.data.toList))) ∧ Below w.heap.size w w' := by
  go_enter Tryd.func36, Tryd.ntmps36
  go_wp2_with fail
  go_ret
  exact ⟨by rw [strOf_bits]; rfl, below_alloc _ _⟩
set_option maxRecDepth 100000 in
set_option maxHeartbeats 2000000 in
theorem l3Written_7 (s : ByteArray) (k0 q0 : Int) (w : World) (hs : s.size ≤ 20000) :
    Calls Tryd.prog 36 #[.agg #[.int .i64 7, .string s, .int .i64 k0, .int .i64 q0]] w fun e w' => e = .returned (.string (strOf (tokT 7 s.data.toList))) ∧ Below w.heap.size w w' := by
  go_enter Tryd.func36, Tryd.ntmps36
  go_wp2_with fail
  go_ret
  exact ⟨by rw [strOf_key]; rfl, below_alloc _ _⟩
set_option maxRecDepth 100000 in
set_option maxHeartbeats 2000000 in
theorem l3Written_n (k : Int) (s : ByteArray) (k0 q0 : Int) (w : World) (h : k = 3 ∨ k = 4) :
    Calls Tryd.prog 36 #[.agg #[.int .i64 k, .string s, .int .i64 k0, .int .i64 q0]] w fun e w' => e = .returned (.string (strOf (tokT k s.data.toList))) ∧ Below w.heap.size w w' := by
  have F : Hid (Ending.returned (.string s) = .returned (.string (strOf (tokT k s.data.toList)))) := by
    have : tokT k s.data.toList = s.data.toList := by unfold tokT; rw [if_neg (by omega), if_neg (by omega), if_pos h]
    unfold Hid; rw [this, strOf_data]
  have e2 : (k == 2) = false := by rw [beq_eq_false_iff_ne]; omega
  have e5 : (k == 5) = false := by rw [beq_eq_false_iff_ne]; omega
  have e6 : (k == 6) = false := by rw [beq_eq_false_iff_ne]; omega
  have e7 : (k == 7) = false := by rw [beq_eq_false_iff_ne]; omega
  clear h
  go_enter Tryd.func36, Tryd.ntmps36
  go_wp2_with fail
  go_ret
  exact ⟨F.out, below_alloc _ _⟩
end Go.Proofs.YtdngpnlbhadbpaaDoor
