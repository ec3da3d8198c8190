import Derived.Test.YtdngpnlbhadbpaaDoorTrP
import Derived.Test.YtdngpnlbhadbpaaDoorTrBx
namespace Go.Proofs.YtdngpnlbhadbpaaDoor
open Go.ChangeShapes Go.WideShapes Go.ChangeAt Go.RowKit
set_option linter.unusedSimpArgs false
theorem wordOk2 (t : List UInt8) : wordOk 2 t = t.all barB := rfl
theorem wordOk6 (t : List UInt8) : wordOk 6 t = t.all textB := rfl
theorem wordOk5 {s : ByteArray} (h : 0 < s.size) : wordOk 5 s.data.toList = s.data.toList.all bitB := by
  show (!s.data.toList.isEmpty && s.data.toList.all bitB) = _
  rw [data_ne h]; rfl
theorem wordOk7 {s : ByteArray} (h : 0 < s.size) : wordOk 7 s.data.toList = s.data.toList.all nameB := by
  show (!s.data.toList.isEmpty && s.data.toList.all nameB) = _
  rw [data_ne h]; rfl
theorem wordOk5n {s : ByteArray} (h : s.size = 0) : wordOk 5 s.data.toList = false := by rw [data_nil h]; rfl
theorem wordOk7n {s : ByteArray} (h : s.size = 0) : wordOk 7 s.data.toList = false := by rw [data_nil h]; rfl
set_option maxRecDepth 100000 in
set_option maxHeartbeats 2000000 in
theorem l3Word_2 (s : ByteArray) (k0 q0 : Int) (w : World) (hs : s.size ≤ maxLen) :
    Calls Tryd.prog 35 #[.agg #[.int .i64 2, .string s, .int .i64 k0, .int .i64 q0]] w fun e w' => e = .returned (.bool (wordOk 2 s.data.toList)) ∧ Below w.heap.size w w' := by
  unfold maxLen at hs
  have F : Hid (wordOk 2 s.data.toList = s.data.toList.all barB) := wordOk2 _
  go_enter Tryd.func35, Tryd.ntmps35
  go_wp2_with fail
  go_loop [4] (fun i => ∃ k : Nat, k ≤ s.size ∧ i = .int .i64 k ∧ (s.data.toList.take k).all barB = true) (fun i => s.size - (intOf i).toNat)
  case atStart => exact ⟨0, Nat.zero_le _, rfl, rfl⟩
  case round =>
    obtain ⟨k, hk, rfl, hp⟩ := hrel
    have HP : Hid ((s.data.toList.take k).all barB = true) := hp
    clear hp
    by_cases hlt : k < s.size
    · go_wp2_with fail
      all_goals first
        | (go_ret
           exact ⟨ret_bool (by rw [F.out, all_stop hlt (by
             rw [Bool.eq_false_iff, ne_eq, barB_iff]; try simp only [beq_iff_eq, beq_eq_false_iff_ne, bne_iff_ne, bne_eq_false_iff_eq, ne_eq] at *
             omega)]), below_alloc _ _⟩)
        | (go_round
           case rel => exact ⟨k + 1, by omega, by go_num, all_snoc hlt HP.out (by
             rw [barB_iff]; try simp only [beq_iff_eq, beq_eq_false_iff_ne, bne_iff_ne, bne_eq_false_iff_eq, ne_eq] at *
             omega)⟩
           case measure => simp [intOf]; omega)
    · skip
      go_wp2_with fail
      go_ret
      exact ⟨ret_bool (by rw [F.out, all_end hlt HP.out]), below_alloc _ _⟩
set_option maxRecDepth 100000 in
set_option maxHeartbeats 2000000 in
theorem l3Word_6 (s : ByteArray) (k0 q0 : Int) (w : World) (hs : s.size ≤ maxLen) :
    Calls Tryd.prog 35 #[.agg #[.int .i64 6, .string s, .int .i64 k0, .int .i64 q0]] w fun e w' => e = .returned (.bool (wordOk 6 s.data.toList)) ∧ Below w.heap.size w w' := by
  unfold maxLen at hs
  have F : Hid (wordOk 6 s.data.toList = s.data.toList.all textB) := wordOk6 _
  go_enter Tryd.func35, Tryd.ntmps35
  go_wp2_with fail
  go_loop [5] (fun i => ∃ k : Nat, k ≤ s.size ∧ i = .int .i64 k ∧ (s.data.toList.take k).all textB = true) (fun i => s.size - (intOf i).toNat)
  case atStart => exact ⟨0, Nat.zero_le _, rfl, rfl⟩
  case round =>
    obtain ⟨k, hk, rfl, hp⟩ := hrel
    have HP : Hid ((s.data.toList.take k).all textB = true) := hp
    clear hp
    by_cases hlt : k < s.size
    · go_wp2_with fail
      all_goals first
        | (go_ret
           exact ⟨ret_bool (by rw [F.out, all_stop hlt (by
             rw [Bool.eq_false_iff, ne_eq, textB_iff]; try simp only [beq_iff_eq, beq_eq_false_iff_ne, bne_iff_ne, bne_eq_false_iff_eq, ne_eq] at *
             omega)]), below_alloc _ _⟩)
        | (go_round
           case rel => exact ⟨k + 1, by omega, by go_num, all_snoc hlt HP.out (by
             rw [textB_iff]; try simp only [beq_iff_eq, beq_eq_false_iff_ne, bne_iff_ne, bne_eq_false_iff_eq, ne_eq] at *
             omega)⟩
           case measure => simp [intOf]; omega)
    · skip
      go_wp2_with fail
      go_ret
      exact ⟨ret_bool (by rw [F.out, all_end hlt HP.out]), below_alloc _ _⟩
set_option maxRecDepth 100000 in
set_option maxHeartbeats 2000000 in
theorem l3Word_7 (s : ByteArray) (k0 q0 : Int) (w : World) (hs : s.size ≤ maxLen) (h0 : 0 < s.size) :
    Calls Tryd.prog 35 #[.agg #[.int .i64 7, .string s, .int .i64 k0, .int .i64 q0]] w fun e w' => e = .returned (.bool (wordOk 7 s.data.toList)) ∧ Below w.heap.size w w' := by
  unfold maxLen at hs
  have F : Hid (wordOk 7 s.data.toList = s.data.toList.all nameB) := wordOk7 h0
  go_enter Tryd.func35, Tryd.ntmps35
  go_wp2_with fail
  go_loop [6] (fun i => ∃ k : Nat, k ≤ s.size ∧ i = .int .i64 k ∧ (s.data.toList.take k).all nameB = true) (fun i => s.size - (intOf i).toNat)
  case atStart => exact ⟨0, Nat.zero_le _, rfl, rfl⟩
  case round =>
    obtain ⟨k, hk, rfl, hp⟩ := hrel
    have HP : Hid ((s.data.toList.take k).all nameB = true) := hp
    clear hp
    by_cases hlt : k < s.size
    · by_cases hc : nameB s[k] = true
      · go_wp2_with (go_at_call 54; refine (l3NameByte_ex _ _).mono ?_; rintro e w' ⟨rfl, rfl⟩)
        go_round
        case rel => exact ⟨k + 1, by omega, by go_num, all_snoc hlt HP.out hc⟩
        case measure => simp [intOf]; omega
      · have hc' : nameB s[k] = false := by simpa using hc
        clear hc
        go_wp2_with (go_at_call 54; refine (l3NameByte_ex _ _).mono ?_; rintro e w' ⟨rfl, rfl⟩)
        go_ret
        exact ⟨ret_bool (by rw [F.out, all_stop hlt hc']), below_alloc _ _⟩
    · have z : decide ((0 : Int) < (s.size : Int)) = true := by rw [decide_eq_true_iff]; omega
      go_wp2_with fail
      go_ret
      exact ⟨ret_bool (by rw [F.out, all_end hlt HP.out]), below_alloc _ _⟩
set_option maxRecDepth 100000 in
set_option maxHeartbeats 2000000 in
theorem l3Word_5 (s : ByteArray) (k0 q0 : Int) (w : World) (hs : s.size ≤ maxLen) (h0 : 0 < s.size) :
    Calls Tryd.prog 35 #[.agg #[.int .i64 5, .string s, .int .i64 k0, .int .i64 q0]] w fun e w' => e = .returned (.bool (wordOk 5 s.data.toList)) ∧ Below w.heap.size w w' := by
  unfold maxLen at hs
  have F : Hid (wordOk 5 s.data.toList = s.data.toList.all bitB) := wordOk5 h0
  go_enter Tryd.func35, Tryd.ntmps35
  go_wp2_with fail
  go_loop [7] (fun i => ∃ k : Nat, k ≤ s.size ∧ i = .int .i64 k ∧ (s.data.toList.take k).all bitB = true) (fun i => s.size - (intOf i).toNat)
  case atStart => exact ⟨0, Nat.zero_le _, rfl, rfl⟩
  case round =>
    obtain ⟨k, hk, rfl, hp⟩ := hrel
    have HP : Hid ((s.data.toList.take k).all bitB = true) := hp
    clear hp
    by_cases hlt : k < s.size
    · go_wp2_with fail
      all_goals first
        | (go_ret
           exact ⟨ret_bool (by rw [F.out, all_stop hlt (by
             rw [Bool.eq_false_iff, ne_eq, bitB_iff]; try simp only [beq_iff_eq, beq_eq_false_iff_ne, bne_iff_ne, bne_eq_false_iff_eq, ne_eq] at *
             omega)]), below_alloc _ _⟩)
        | (go_round
           case rel => exact ⟨k + 1, by omega, by go_num, all_snoc hlt HP.out (by
             rw [bitB_iff]; try simp only [beq_iff_eq, beq_eq_false_iff_ne, bne_iff_ne, bne_eq_false_iff_eq, ne_eq] at *
             omega)⟩
           case measure => simp [intOf]; omega)
    · have z : decide ((0 : Int) < (s.size : Int)) = true := by rw [decide_eq_true_iff]; omega
      go_wp2_with fail
      go_ret
      exact ⟨ret_bool (by rw [F.out, all_end hlt HP.out]), below_alloc _ _⟩
set_option maxRecDepth 100000 in
set_option maxHeartbeats 2000000 in
theorem l3Word_5n (s : ByteArray) (k0 q0 : Int) (w : World) (h0 : s.size = 0) :
    Calls Tryd.prog 35 #[.agg #[.int .i64 5, .string s, .int .i64 k0, .int .i64 q0]] w fun e w' => e = .returned (.bool (wordOk 5 s.data.toList)) ∧ Below w.heap.size w w' := by
  have F : Hid (wordOk 5 s.data.toList = false) := wordOk5n h0
  have hz : (s.size : Int) = 0 := by omega
  clear h0
  go_enter Tryd.func35, Tryd.ntmps35
  go_wp2_with fail
  go_loop [7] (fun i => i = .int .i64 0) (fun _ => 0)
  case atStart => exact rfl
  case round =>
    subst hrel
    go_wp2_with fail
    go_ret
    exact ⟨ret_bool F.out.symm, below_alloc _ _⟩
set_option maxRecDepth 100000 in
set_option maxHeartbeats 2000000 in
theorem l3Word_7n (s : ByteArray) (k0 q0 : Int) (w : World) (h0 : s.size = 0) :
    Calls Tryd.prog 35 #[.agg #[.int .i64 7, .string s, .int .i64 k0, .int .i64 q0]] w fun e w' => e = .returned (.bool (wordOk 7 s.data.toList)) ∧ Below w.heap.size w w' := by
  have F : Hid (wordOk 7 s.data.toList = false) := wordOk7n h0
  have hz : (s.size : Int) = 0 := by omega
  clear h0
  go_enter Tryd.func35, Tryd.ntmps35
  go_wp2_with fail
  go_loop [6] (fun i => i = .int .i64 0) (fun _ => 0)
  case atStart => exact rfl
  case round =>
    subst hrel
    go_wp2_with fail
    go_ret
    exact ⟨ret_bool F.out.symm, below_alloc _ _⟩
end Go.Proofs.YtdngpnlbhadbpaaDoor
