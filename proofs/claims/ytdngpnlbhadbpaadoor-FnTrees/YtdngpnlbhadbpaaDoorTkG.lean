import Derived.Test.YtdngpnlbhadbpaaDoorTkF
namespace Go.Proofs.YtdngpnlbhadbpaaDoor
open Go.ChangeShapes Go.WideShapes Go.ChangeAt Go.RowKit
def hexN (c : UInt8) : Nat := if c.toNat ≤ 57 then c.toNat - 48 else if c.toNat ≤ 70 then c.toNat - 65 + 10 else c.toNat - 97 + 10
theorem hexN_lt {c : UInt8} (h : hexB c = true) : hexN c < 16 := by
  rw [hexB_iff] at h; unfold hexN; split
  · omega
  · split <;> omega
theorem hexI {c : UInt8} {x : Int} (h : x = (hexN c : Nat)) : Ending.returned (.int .i64 x) = .returned (.int .i64 (hexN c : Nat)) := by rw [h]
theorem hexV {c : UInt8} {x : Int} (h : x = (hexN c : Nat)) : Ending.returned (.int .u8 x) = .returned (.int .u8 (hexN c : Nat)) := by rw [h]
set_option maxRecDepth 100000 in
set_option maxHeartbeats 2000000 in
theorem hexValue_ex (c : UInt8) (w : World) (h : hexB c = true) :
    Calls Tryd.prog 74 #[.int .u8 (c.toNat : Int)] w fun e w' => e = .returned (.int .u8 (hexN c : Nat)) ∧ w' = w := by
  rw [hexB_iff] at h
  rcases h with (h | h) | h
  · have HN : Hid ((c.toNat : Int) - 48 = (hexN c : Nat)) := by unfold Hid hexN; rw [if_pos (by omega)]; omega
    go_enter Tryd.func74, Tryd.ntmps74
    go_wp2_with fail
    go_ret
    exact ⟨hexV HN.out, rfl⟩
  · have HN : Hid ((c.toNat : Int) - 97 + 10 = (hexN c : Nat)) := by unfold Hid hexN; rw [if_neg (by omega), if_neg (by omega)]; omega
    go_enter Tryd.func74, Tryd.ntmps74
    go_wp2_with fail
    go_ret
    exact ⟨hexV HN.out, rfl⟩
  · have HN : Hid ((c.toNat : Int) - 65 + 10 = (hexN c : Nat)) := by unfold Hid hexN; rw [if_neg (by omega), if_pos (by omega)]; omega
    go_enter Tryd.func74, Tryd.ntmps74
    go_wp2_with fail
    go_ret
    exact ⟨hexV HN.out, rfl⟩
set_option maxRecDepth 100000 in
set_option maxHeartbeats 2000000 in
theorem l3Hex_yes (c : UInt8) (w : World) (h : hexB c = true) :
    Calls Tryd.prog 75 #[.int .u8 (c.toNat : Int)] w fun e w' => e = .returned (.int .i64 (hexN c : Nat)) ∧ w' = w := by
  rw [hexB_iff] at h
  rcases h with (h | h) | h
  · have HN : Hid ((c.toNat : Int) - 48 = (hexN c : Nat)) := by unfold Hid hexN; rw [if_pos (by omega)]; omega
    go_enter Tryd.func75, Tryd.ntmps75
    go_wp2_with fail
    go_ret
    exact ⟨hexI HN.out, rfl⟩
  · have HN : Hid ((c.toNat : Int) - 97 + 10 = (hexN c : Nat)) := by unfold Hid hexN; rw [if_neg (by omega), if_neg (by omega)]; omega
    go_enter Tryd.func75, Tryd.ntmps75
    go_wp2_with fail
    go_ret
    exact ⟨hexI HN.out, rfl⟩
  · have HN : Hid ((c.toNat : Int) - 65 + 10 = (hexN c : Nat)) := by unfold Hid hexN; rw [if_neg (by omega), if_pos (by omega)]; omega
    go_enter Tryd.func75, Tryd.ntmps75
    go_wp2_with fail
    go_ret
    exact ⟨hexI HN.out, rfl⟩
set_option maxRecDepth 100000 in
set_option maxHeartbeats 2000000 in
theorem l3Hex_no (c : UInt8) (w : World) (h : hexB c = false) :
    Calls Tryd.prog 75 #[.int .u8 (c.toNat : Int)] w fun e w' => e = .returned (.int .i64 (-1)) ∧ w' = w := by
  have h' : ¬ hexB c = true := by rw [h]; decide
  rw [hexB_iff] at h'
  clear h
  go_enter Tryd.func75, Tryd.ntmps75
  go_wp2_with fail
  all_goals first
    | (exfalso; omega)
    | (go_ret; exact ⟨rfl, rfl⟩)
end Go.Proofs.YtdngpnlbhadbpaaDoor
