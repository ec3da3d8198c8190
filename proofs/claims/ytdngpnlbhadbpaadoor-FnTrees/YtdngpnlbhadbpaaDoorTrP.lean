import Derived.Test.YtdngpnlbhadbpaaDoorTrR
namespace Go.Proofs.YtdngpnlbhadbpaaDoor
open Go.ChangeShapes Go.WideShapes Go.ChangeAt Go.RowKit
theorem head_eq (d : ByteArray) (h : 0 < d.size) : d.data.toList.head? = some d[0] := by
  obtain ⟨⟨l⟩⟩ := d
  cases l with
  | nil => simp [ByteArray.size] at h
  | cons a l => rfl
theorem toList_ne (d : ByteArray) (h : 0 < d.size) : d.toList.isEmpty = false := by
  rw [ByteArray.toList_eq]
  have := Lib.size_eq d
  cases hl : d.data.toList with
  | nil => exfalso; rw [hl] at this; simp only [List.length_nil] at this; omega
  | cons _ _ => rfl
theorem data_nil {d : ByteArray} (h : d.size = 0) : d.data.toList = [] := List.eq_nil_of_length_eq_zero (by rw [← Lib.size_eq]; exact h)
theorem toList_e (d : ByteArray) (h : d.size = 0) : d.toList.isEmpty = true := by
  rw [ByteArray.toList_eq, data_nil h]; rfl
theorem data_ne {d : ByteArray} (h : 0 < d.size) : d.data.toList.isEmpty = false := by rw [← ByteArray.toList_eq]; exact toList_ne d h
theorem plainN_nil {s : ByteArray} (h : s.size = 0) : plainN s.data.toList = false := by rw [data_nil h]; rfl
theorem plainN_dg {s : ByteArray} (h : 0 < s.size) (h1 : dg s[0] = true) : plainN s.data.toList = false := by
  unfold plainN; rw [head_eq s h]; simp [h1]
theorem plainN_rest {s : ByteArray} (h : 0 < s.size) (h1 : dg s[0] = false) : plainN s.data.toList = s.data.toList.all nameB := by
  unfold plainN; rw [head_eq s h, data_ne h]; simp [h1]
set_option maxRecDepth 100000 in
set_option maxHeartbeats 1000000 in
theorem l3Plain_any (s : ByteArray) (w : World) (hs : s.size ≤ maxLen) :
    Calls Tryd.prog 57 #[.string s] w fun e w' => e = .returned (.bool (plainN s.data.toList)) ∧ w' = w := by
  unfold maxLen at hs
  by_cases h0 : s.size = 0
  · have F : Hid (plainN s.data.toList = false) := plainN_nil h0
    have z : ((s.size : Int) == 0) = true := by rw [beq_iff_eq]; omega
    clear h0
    go_enter Tryd.func57, Tryd.ntmps57
    go_wp2_with fail
    go_ret
    exact ⟨ret_bool F.out.symm, rfl⟩
  have hp : 0 < s.size := by omega
  have z : ((s.size : Int) == 0) = false := by rw [beq_eq_false_iff_ne]; omega
  clear h0
  by_cases h1 : dg s[0] = true
  · have F : Hid (plainN s.data.toList = false) := plainN_dg hp h1
    go_enter Tryd.func57, Tryd.ntmps57
    go_wp2_with (go_at_call 55; refine (l3Digit_ex _ _).mono ?_; rintro e w' ⟨rfl, rfl⟩)
    go_ret
    exact ⟨ret_bool F.out.symm, rfl⟩
  have h1' : dg s[0] = false := by simpa using h1
  have F : Hid (plainN s.data.toList = s.data.toList.all nameB) := plainN_rest hp h1'
  clear h1
  go_enter Tryd.func57, Tryd.ntmps57
  go_wp2_with (go_at_call 55; refine (l3Digit_ex _ _).mono ?_; rintro e w' ⟨rfl, rfl⟩)
  go_loop [3] (fun i => ∃ k : Nat, k ≤ s.size ∧ i = .int .i64 k ∧ (s.data.toList.take k).all nameB = true) (fun i => s.size - (intOf i).toNat)
  case atStart => exact ⟨0, Nat.zero_le _, rfl, rfl⟩
  case round =>
    obtain ⟨k, hk, rfl, hp⟩ := hrel
    have HP : Hid ((s.data.toList.take k).all nameB = true) := hp
    clear hp
    by_cases hlt : k < s.size
    · by_cases hc : nameB s[k] = true
      · go_wp2_with (go_at_call 54; refine (l3NameByte_ex _ _).mono ?_; rintro e w' ⟨rfl, rfl⟩)
        go_round
        case rel => exact ⟨k + 1, by omega, by go_num, all_snoc hlt HP.out hc⟩
        case measure => simp [intOf]; omega
      · have hc' : nameB s[k] = false := by simpa using hc
        clear hc
        go_wp2_with (go_at_call 54; refine (l3NameByte_ex _ _).mono ?_; rintro e w' ⟨rfl, rfl⟩)
        go_ret
        exact ⟨ret_bool (by rw [F.out, all_stop hlt hc']), rfl⟩
    · go_wp2_with fail
      go_ret
      exact ⟨ret_bool (by rw [F.out, all_end hlt HP.out]), rfl⟩
def strOf (l : List UInt8) : ByteArray := ⟨l.toArray⟩
theorem strOf_toList (l : List UInt8) : (strOf l).data.toList = l := by simp [strOf]
theorem strOf_data (s : ByteArray) : strOf s.data.toList = s := by simp [strOf]
theorem strOf_bars (s : ByteArray) : (⟨#[124]⟩ ++ s ++ ⟨#[124]⟩ : ByteArray) = strOf (124 :: (s.data.toList ++ [124])) := by
  apply ByteArray.ext
  apply Array.ext'
  simp [strOf]
theorem tokT_bars {s : ByteArray} (h : plainN s.data.toList = false) : Ending.returned (.string (⟨#[124]⟩ ++ s ++ ⟨#[124]⟩)) = .returned (.string (strOf (tokT 2 s.data.toList))) := by
  rw [strOf_bars]; simp [tokT, h]
theorem tokT_plain {s : ByteArray} (h : plainN s.data.toList = true) : Ending.returned (.string s) = .returned (.string (strOf (tokT 2 s.data.toList))) := by
  have : tokT 2 s.data.toList = s.data.toList := by simp [tokT, h]
  rw [this, strOf_data]
set_option maxRecDepth 100000 in
set_option maxHeartbeats 1000000 in
theorem nameText_any (s : ByteArray) (w : World) (hs : s.size ≤ 20000) :
    Calls Tryd.prog 59 #[.string s] w fun e w' => e = .returned (.string (strOf (tokT 2 s.data.toList))) ∧ w' = w := by
  have hm : s.size ≤ maxLen := by unfold maxLen; omega
  by_cases h0 : s.size = 0
  · have F : Hid (plainN s.data.toList = false) := plainN_nil h0
    have z := toList_e s h0
    clear h0
    go_enter Tryd.func59, Tryd.ntmps59
    go_wp2_with fail
    go_ret
    exact ⟨tokT_bars F.out, rfl⟩
  have hp : 0 < s.size := by omega
  have z := toList_ne s hp
  clear h0
  by_cases h1 : dg s[0] = true
  · have F : Hid (plainN s.data.toList = false) := plainN_dg hp h1
    go_enter Tryd.func59, Tryd.ntmps59
    go_wp2_with (go_at_call 43; refine (isDigit_ex _ _).mono ?_; rintro e w' ⟨rfl, rfl⟩)
    go_ret
    exact ⟨tokT_bars F.out, rfl⟩
  have h1' : dg s[0] = false := by simpa using h1
  have F : Hid (plainN s.data.toList = s.data.toList.all nameB) := plainN_rest hp h1'
  clear h1
  by_cases h2 : s.data.toList.all nameB = true
  · have z2 : ((runL nameB s.data.toList : Int) == (s.size : Int)) = true := by rw [runL_all h2, Lib.size_eq]; simp
    have F2 : Hid (plainN s.data.toList = true) := F.out.trans h2
    clear h2
    go_enter Tryd.func59, Tryd.ntmps59
    go_wp2_with (first | (go_at_call 43; refine (isDigit_ex _ _).mono ?_; rintro e w' ⟨rfl, rfl⟩) | (go_at_call 48; refine (runOf_name _ _ hm).mono ?_; rintro e w' ⟨rfl, rfl⟩))
    go_ret
    exact ⟨tokT_plain F2.out, rfl⟩
  · have z2 : ((runL nameB s.data.toList : Int) == (s.size : Int)) = false := by
      rw [beq_eq_false_iff_ne]
      intro e
      exact h2 (runL_iff.1 (by rw [← Lib.size_eq]; omega))
    have F2 : Hid (plainN s.data.toList = false) := F.out.trans (by simpa using h2)
    clear h2
    go_enter Tryd.func59, Tryd.ntmps59
    go_wp2_with (first | (go_at_call 43; refine (isDigit_ex _ _).mono ?_; rintro e w' ⟨rfl, rfl⟩) | (go_at_call 48; refine (runOf_name _ _ hm).mono ?_; rintro e w' ⟨rfl, rfl⟩))
    go_ret
    exact ⟨tokT_bars F2.out, rfl⟩
end Go.Proofs.YtdngpnlbhadbpaaDoor
