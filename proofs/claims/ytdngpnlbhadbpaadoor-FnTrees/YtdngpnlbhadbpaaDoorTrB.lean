import Derived.Test.YtdngpnlbhadbpaaDoorTreeM
namespace Go.Proofs.YtdngpnlbhadbpaaDoor
open Go.ChangeShapes Go.WideShapes Go.ChangeAt Go.RowKit
theorem ret_bool {a b : Bool} (h : a = b) : Ending.returned (.bool a) = .returned (.bool b) := by rw [h]
theorem take_snoc (s : ByteArray) (k : Nat) (h : k < s.size) : s.data.toList.take (k + 1) = s.data.toList.take k ++ [s[k]] := by
  rw [List.take_succ_eq_append_getElem (by simpa using h)]; rfl
theorem all_snoc {p : UInt8 → Bool} {s : ByteArray} {k : Nat} (h : k < s.size) (hp : (s.data.toList.take k).all p = true) (h1 : p s[k] = true) : (s.data.toList.take (k + 1)).all p = true := by
  rw [take_snoc s k h, List.all_append, hp]; simp [h1]
theorem all_stop {p : UInt8 → Bool} {s : ByteArray} {k : Nat} (h : k < s.size) (h1 : p s[k] = false) : s.data.toList.all p = false := by
  rw [Bool.eq_false_iff]
  intro ha
  rw [List.all_eq_true] at ha
  have := ha s[k] (by show s.data[k] ∈ _; exact Array.getElem_mem_toList _)
  rw [h1] at this; cases this
theorem all_end {p : UInt8 → Bool} {s : ByteArray} {k : Nat} (h : ¬ k < s.size) (hp : (s.data.toList.take k).all p = true) : s.data.toList.all p = true := by
  rw [← hp, List.take_of_length_le (by rw [← Lib.size_eq]; omega)]
theorem dg_no {c : UInt8} (h : ¬ (48 ≤ c.toNat ∧ c.toNat ≤ 57)) : dg c = false := by
  rw [Bool.eq_false_iff]; simp only [dg, ne_eq, Bool.and_eq_true, decide_eq_true_eq]; exact h
theorem dg_yes {c : UInt8} (h : 48 ≤ c.toNat) (h' : c.toNat ≤ 57) : dg c = true := by simp [dg, h, h']
theorem ret_dec {P : Prop} [Decidable P] {b : Bool} (h : P ↔ b = true) : Ending.returned (.bool (decide P)) = .returned (.bool b) := by
  congr 2
  rw [Bool.eq_iff_iff, decide_eq_true_iff]; exact h
theorem dg_iff (c : UInt8) : dg c = true ↔ 48 ≤ c.toNat ∧ c.toNat ≤ 57 := by simp [dg]
theorem bitB_iff (c : UInt8) : bitB c = true ↔ c.toNat = 48 ∨ c.toNat = 49 := by simp [bitB]
theorem shown_iff (c : UInt8) : shown c = true ↔ 32 ≤ c.toNat ∧ c.toNat ≤ 126 := by simp [shown]
theorem textB_iff (c : UInt8) : textB c = true ↔ (32 ≤ c.toNat ∧ c.toNat ≤ 126) ∨ c.toNat = 10 := by simp [textB, shown]
theorem barB_iff (c : UInt8) : barB c = true ↔ ((32 ≤ c.toNat ∧ c.toNat ≤ 126) ∧ c.toNat ≠ 124) ∧ c.toNat ≠ 92 := by simp [barB, shown]
set_option maxHeartbeats 400000 in
theorem l3Digit_ex (c : UInt8) (w : World) :
    Calls Tryd.prog 55 #[.int .u8 (c.toNat : Int)] w fun e w' => e = .returned (.bool (dg c)) ∧ w' = w := by
  have HF : Hid (dg c = true ↔ 48 ≤ c.toNat ∧ c.toNat ≤ 57) := dg_iff c
  go_enter Tryd.func55, Tryd.ntmps55
  go_wp2
  all_goals go_ret
  all_goals (refine ⟨ret_bool ?_, rfl⟩; rw [Bool.eq_iff_iff, HF.out]; simp <;> omega)
set_option maxHeartbeats 400000 in
theorem isDigit_ex (c : UInt8) (w : World) :
    Calls Tryd.prog 43 #[.int .u8 (c.toNat : Int)] w fun e w' => e = .returned (.bool (dg c)) ∧ w' = w := by
  have HF : Hid (dg c = true ↔ 48 ≤ c.toNat ∧ c.toNat ≤ 57) := dg_iff c
  go_enter Tryd.func43, Tryd.ntmps43
  go_wp2
  all_goals go_ret
  all_goals (refine ⟨ret_bool ?_, rfl⟩; rw [Bool.eq_iff_iff, HF.out]; simp <;> omega)
set_option maxHeartbeats 400000 in
theorem isBit_ex (c : UInt8) (w : World) :
    Calls Tryd.prog 65 #[.int .u8 (c.toNat : Int)] w fun e w' => e = .returned (.bool (bitB c)) ∧ w' = w := by
  have HF : Hid (bitB c = true ↔ c.toNat = 48 ∨ c.toNat = 49) := bitB_iff c
  go_enter Tryd.func65, Tryd.ntmps65
  go_wp2
  all_goals go_ret
  all_goals (refine ⟨ret_bool ?_, rfl⟩; rw [Bool.eq_iff_iff, HF.out]; simp <;> omega)
set_option maxHeartbeats 400000 in
theorem isShown_ex (c : UInt8) (w : World) :
    Calls Tryd.prog 73 #[.int .u8 (c.toNat : Int)] w fun e w' => e = .returned (.bool (shown c)) ∧ w' = w := by
  have HF : Hid (shown c = true ↔ 32 ≤ c.toNat ∧ c.toNat ≤ 126) := shown_iff c
  go_enter Tryd.func73, Tryd.ntmps73
  go_wp2
  all_goals go_ret
  all_goals (refine ⟨ret_bool ?_, rfl⟩; rw [Bool.eq_iff_iff, HF.out]; simp <;> omega)
set_option maxHeartbeats 400000 in
theorem isTextByte_ex (c : UInt8) (w : World) :
    Calls Tryd.prog 62 #[.int .u8 (c.toNat : Int)] w fun e w' => e = .returned (.bool (textB c)) ∧ w' = w := by
  have HF : Hid (textB c = true ↔ (32 ≤ c.toNat ∧ c.toNat ≤ 126) ∨ c.toNat = 10) := textB_iff c
  go_enter Tryd.func62, Tryd.ntmps62
  go_wp2
  all_goals go_ret
  all_goals (refine ⟨ret_bool ?_, rfl⟩; rw [Bool.eq_iff_iff, HF.out]; simp <;> omega)
set_option maxHeartbeats 400000 in
theorem isBarredByte_ex (c : UInt8) (w : World) :
    Calls Tryd.prog 63 #[.int .u8 (c.toNat : Int)] w fun e w' => e = .returned (.bool (barB c)) ∧ w' = w := by
  have HF : Hid (barB c = true ↔ ((32 ≤ c.toNat ∧ c.toNat ≤ 126) ∧ c.toNat ≠ 124) ∧ c.toNat ≠ 92) := barB_iff c
  go_enter Tryd.func63, Tryd.ntmps63
  go_wp2
  all_goals go_ret
  all_goals (refine ⟨ret_bool ?_, rfl⟩; rw [Bool.eq_iff_iff, HF.out]; simp <;> omega)
end Go.Proofs.YtdngpnlbhadbpaaDoor
