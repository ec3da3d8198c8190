import Derived.Test.YtdngpnlbhadbpaaDoorTrI
namespace Go.Proofs.YtdngpnlbhadbpaaDoor
open Go.ChangeShapes Go.WideShapes Go.ChangeAt Go.RowKit
theorem runL_stop {p : UInt8 → Bool} {s : ByteArray} {k : Nat} (h : k < s.size) (hp : (s.data.toList.take k).all p = true) (h1 : p s[k] = false) : runL p s.data.toList = k := by
  refine runL_at (by rw [← Lib.size_eq]; omega) (fun j hj hji => ?_) (fun _ => h1)
  rw [List.all_eq_true] at hp
  refine hp _ ?_
  rw [List.mem_take_iff_getElem]
  exact ⟨j, by omega, rfl⟩
theorem runL_end {p : UInt8 → Bool} {s : ByteArray} {k : Nat} (h : ¬ k < s.size) (hp : (s.data.toList.take k).all p = true) : runL p s.data.toList = s.size := by
  rw [runL_all (all_end h hp), Lib.size_eq]
def hexB (c : UInt8) : Bool := dg c || (decide (97 ≤ c.toNat) && decide (c.toNat ≤ 102)) || (decide (65 ≤ c.toNat) && decide (c.toNat ≤ 70))
theorem hexB_iff (c : UInt8) : hexB c = true ↔ ((48 ≤ c.toNat ∧ c.toNat ≤ 57) ∨ (97 ≤ c.toNat ∧ c.toNat ≤ 102)) ∨ (65 ≤ c.toNat ∧ c.toNat ≤ 70) := by simp [hexB, dg]
set_option maxHeartbeats 400000 in
theorem isHexDigit_ex (c : UInt8) (w : World) :
    Calls Tryd.prog 67 #[.int .u8 (c.toNat : Int)] w fun e w' => e = .returned (.bool (hexB c)) ∧ w' = w := by
  have HF : Hid (hexB c = true ↔ ((48 ≤ c.toNat ∧ c.toNat ≤ 57) ∨ (97 ≤ c.toNat ∧ c.toNat ≤ 102)) ∨ (65 ≤ c.toNat ∧ c.toNat ≤ 70)) := hexB_iff c
  go_enter Tryd.func67, Tryd.ntmps67
  go_wp2
  all_goals go_ret
  all_goals (refine ⟨ret_bool ?_, rfl⟩; rw [Bool.eq_iff_iff, HF.out]; simp <;> omega)
set_option maxRecDepth 100000 in
set_option maxHeartbeats 1000000 in
theorem runOf_name (s : ByteArray) (w : World) (hs : s.size ≤ maxLen) :
    Calls Tryd.prog 48 #[.func (.func 44) #[] #[], .string s] w fun e w' => e = .returned (.int .i64 (runL nameB s.data.toList : Nat)) ∧ w' = w := by
  unfold maxLen at hs
  go_enter Tryd.func48, Tryd.ntmps48
  go_wp2_with fail
  go_loop [5] (fun i => ∃ k : Nat, k ≤ s.size ∧ i = .int .i64 k ∧ (s.data.toList.take k).all nameB = true) (fun i => s.size - (intOf i).toNat)
  case atStart => exact ⟨0, Nat.zero_le _, rfl, rfl⟩
  case round =>
    obtain ⟨k, hk, rfl, hp⟩ := hrel
    have HP : Hid ((s.data.toList.take k).all nameB = true) := hp
    clear hp
    by_cases hlt : k < s.size
    · by_cases hc : nameB s[k] = true
      · go_wp2_with (go_at_call 44; refine (isNameByte_ex _ _).mono ?_; rintro e w' ⟨rfl, rfl⟩)
        go_round
        case rel => exact ⟨k + 1, by omega, by go_num, all_snoc hlt HP.out hc⟩
        case measure => simp [intOf]; omega
      · have hc' : nameB s[k] = false := by simpa using hc
        clear hc
        go_wp2_with (go_at_call 44; refine (isNameByte_ex _ _).mono ?_; rintro e w' ⟨rfl, rfl⟩)
        go_ret
        exact ⟨by rw [runL_stop hlt HP.out hc']; rfl, rfl⟩
    · go_wp2_with fail
      go_ret
      exact ⟨by rw [runL_end hlt HP.out]; rfl, rfl⟩
set_option maxRecDepth 100000 in
set_option maxHeartbeats 1000000 in
theorem runOf_bar (s : ByteArray) (w : World) (hs : s.size ≤ maxLen) :
    Calls Tryd.prog 48 #[.func (.func 63) #[] #[], .string s] w fun e w' => e = .returned (.int .i64 (runL barB s.data.toList : Nat)) ∧ w' = w := by
  unfold maxLen at hs
  go_enter Tryd.func48, Tryd.ntmps48
  go_wp2_with fail
  go_loop [5] (fun i => ∃ k : Nat, k ≤ s.size ∧ i = .int .i64 k ∧ (s.data.toList.take k).all barB = true) (fun i => s.size - (intOf i).toNat)
  case atStart => exact ⟨0, Nat.zero_le _, rfl, rfl⟩
  case round =>
    obtain ⟨k, hk, rfl, hp⟩ := hrel
    have HP : Hid ((s.data.toList.take k).all barB = true) := hp
    clear hp
    by_cases hlt : k < s.size
    · by_cases hc : barB s[k] = true
      · go_wp2_with (go_at_call 63; refine (isBarredByte_ex _ _).mono ?_; rintro e w' ⟨rfl, rfl⟩)
        go_round
        case rel => exact ⟨k + 1, by omega, by go_num, all_snoc hlt HP.out hc⟩
        case measure => simp [intOf]; omega
      · have hc' : barB s[k] = false := by simpa using hc
        clear hc
        go_wp2_with (go_at_call 63; refine (isBarredByte_ex _ _).mono ?_; rintro e w' ⟨rfl, rfl⟩)
        go_ret
        exact ⟨by rw [runL_stop hlt HP.out hc']; rfl, rfl⟩
    · go_wp2_with fail
      go_ret
      exact ⟨by rw [runL_end hlt HP.out]; rfl, rfl⟩
set_option maxRecDepth 100000 in
set_option maxHeartbeats 1000000 in
theorem runOf_bit (s : ByteArray) (w : World) (hs : s.size ≤ maxLen) :
    Calls Tryd.prog 48 #[.func (.func 65) #[] #[], .string s] w fun e w' => e = .returned (.int .i64 (runL bitB s.data.toList : Nat)) ∧ w' = w := by
  unfold maxLen at hs
  go_enter Tryd.func48, Tryd.ntmps48
  go_wp2_with fail
  go_loop [5] (fun i => ∃ k : Nat, k ≤ s.size ∧ i = .int .i64 k ∧ (s.data.toList.take k).all bitB = true) (fun i => s.size - (intOf i).toNat)
  case atStart => exact ⟨0, Nat.zero_le _, rfl, rfl⟩
  case round =>
    obtain ⟨k, hk, rfl, hp⟩ := hrel
    have HP : Hid ((s.data.toList.take k).all bitB = true) := hp
    clear hp
    by_cases hlt : k < s.size
    · by_cases hc : bitB s[k] = true
      · go_wp2_with (go_at_call 65; refine (isBit_ex _ _).mono ?_; rintro e w' ⟨rfl, rfl⟩)
        go_round
        case rel => exact ⟨k + 1, by omega, by go_num, all_snoc hlt HP.out hc⟩
        case measure => simp [intOf]; omega
      · have hc' : bitB s[k] = false := by simpa using hc
        clear hc
        go_wp2_with (go_at_call 65; refine (isBit_ex _ _).mono ?_; rintro e w' ⟨rfl, rfl⟩)
        go_ret
        exact ⟨by rw [runL_stop hlt HP.out hc']; rfl, rfl⟩
    · go_wp2_with fail
      go_ret
      exact ⟨by rw [runL_end hlt HP.out]; rfl, rfl⟩
set_option maxRecDepth 100000 in
set_option maxHeartbeats 1000000 in
theorem runOf_dg (s : ByteArray) (w : World) (hs : s.size ≤ maxLen) :
    Calls Tryd.prog 48 #[.func (.func 43) #[] #[], .string s] w fun e w' => e = .returned (.int .i64 (runL dg s.data.toList : Nat)) ∧ w' = w := by
  unfold maxLen at hs
  go_enter Tryd.func48, Tryd.ntmps48
  go_wp2_with fail
  go_loop [5] (fun i => ∃ k : Nat, k ≤ s.size ∧ i = .int .i64 k ∧ (s.data.toList.take k).all dg = true) (fun i => s.size - (intOf i).toNat)
  case atStart => exact ⟨0, Nat.zero_le _, rfl, rfl⟩
  case round =>
    obtain ⟨k, hk, rfl, hp⟩ := hrel
    have HP : Hid ((s.data.toList.take k).all dg = true) := hp
    clear hp
    by_cases hlt : k < s.size
    · by_cases hc : dg s[k] = true
      · go_wp2_with (go_at_call 43; refine (isDigit_ex _ _).mono ?_; rintro e w' ⟨rfl, rfl⟩)
        go_round
        case rel => exact ⟨k + 1, by omega, by go_num, all_snoc hlt HP.out hc⟩
        case measure => simp [intOf]; omega
      · have hc' : dg s[k] = false := by simpa using hc
        clear hc
        go_wp2_with (go_at_call 43; refine (isDigit_ex _ _).mono ?_; rintro e w' ⟨rfl, rfl⟩)
        go_ret
        exact ⟨by rw [runL_stop hlt HP.out hc']; rfl, rfl⟩
    · go_wp2_with fail
      go_ret
      exact ⟨by rw [runL_end hlt HP.out]; rfl, rfl⟩
set_option maxRecDepth 100000 in
set_option maxHeartbeats 1000000 in
theorem runOf_hex (s : ByteArray) (w : World) (hs : s.size ≤ maxLen) :
    Calls Tryd.prog 48 #[.func (.func 67) #[] #[], .string s] w fun e w' => e = .returned (.int .i64 (runL hexB s.data.toList : Nat)) ∧ w' = w := by
  unfold maxLen at hs
  go_enter Tryd.func48, Tryd.ntmps48
  go_wp2_with fail
  go_loop [5] (fun i => ∃ k : Nat, k ≤ s.size ∧ i = .int .i64 k ∧ (s.data.toList.take k).all hexB = true) (fun i => s.size - (intOf i).toNat)
  case atStart => exact ⟨0, Nat.zero_le _, rfl, rfl⟩
  case round =>
    obtain ⟨k, hk, rfl, hp⟩ := hrel
    have HP : Hid ((s.data.toList.take k).all hexB = true) := hp
    clear hp
    by_cases hlt : k < s.size
    · by_cases hc : hexB s[k] = true
      · go_wp2_with (go_at_call 67; refine (isHexDigit_ex _ _).mono ?_; rintro e w' ⟨rfl, rfl⟩)
        go_round
        case rel => exact ⟨k + 1, by omega, by go_num, all_snoc hlt HP.out hc⟩
        case measure => simp [intOf]; omega
      · have hc' : hexB s[k] = false := by simpa using hc
        clear hc
        go_wp2_with (go_at_call 67; refine (isHexDigit_ex _ _).mono ?_; rintro e w' ⟨rfl, rfl⟩)
        go_ret
        exact ⟨by rw [runL_stop hlt HP.out hc']; rfl, rfl⟩
    · go_wp2_with fail
      go_ret
      exact ⟨by rw [runL_end hlt HP.out]; rfl, rfl⟩
end Go.Proofs.YtdngpnlbhadbpaaDoor
