import Derived.Test.YtdngpnlbhadbpaaDoorTrB
namespace Go.Proofs.YtdngpnlbhadbpaaDoor
open Go.ChangeShapes Go.WideShapes Go.ChangeAt Go.RowKit
abbrev moreS : ByteArray := ⟨#[43, 45, 42, 47, 61, 37, 63, 33, 46, 36, 95, 126, 38, 94, 60, 62, 64]⟩
theorem nameB_iff (c : UInt8) : nameB c = true ↔ ((97 ≤ c.toNat ∧ c.toNat ≤ 122) ∨ (65 ≤ c.toNat ∧ c.toNat ≤ 90) ∨ (48 ≤ c.toNat ∧ c.toNat ≤ 57)) ∨ c ∈ moreB := by
  simp [nameB, dg, or_assoc]
theorem u8_eq {a c : UInt8} (e : ((a.toNat : Int) == (c.toNat : Int)) = true) : a = c := by
  rw [beq_iff_eq] at e
  exact UInt8.toNat_inj.1 (by omega)
theorem u8_ne {a c : UInt8} (e : ((a.toNat : Int) == (c.toNat : Int)) = false) : a ≠ c := by
  rw [beq_eq_false_iff_ne] at e
  intro h; rw [h] at e; exact e rfl
theorem more_toList : moreS.data.toList = moreB := rfl
theorem more_yes {k : Nat} {c : UInt8} (h : k < moreS.size) (e : ((moreS[k].toNat : Int) == (c.toNat : Int)) = true) : c ∈ moreB := by
  rw [← u8_eq e, ← more_toList]
  show moreS.data[k] ∈ _
  exact Array.getElem_mem_toList _
theorem more_no {k : Nat} {c : UInt8} (h : k < moreS.size) (e : ((moreS[k].toNat : Int) == (c.toNat : Int)) = false) (hp : c ∉ moreB.take k) : c ∉ moreB.take (k + 1) := by
  have := take_snoc moreS k h
  rw [more_toList] at this
  rw [this, List.mem_append, not_or]
  exact ⟨hp, fun hc => u8_ne e (List.mem_singleton.1 hc).symm⟩
set_option maxHeartbeats 1000000 in
theorem l3NameByte_ex (c : UInt8) (w : World) :
    Calls Tryd.prog 54 #[.int .u8 (c.toNat : Int)] w fun e w' => e = .returned (.bool (nameB c)) ∧ w' = w := by
  have HF : Hid (nameB c = true ↔ ((97 ≤ c.toNat ∧ c.toNat ≤ 122) ∨ (65 ≤ c.toNat ∧ c.toNat ≤ 90) ∨ (48 ≤ c.toNat ∧ c.toNat ≤ 57)) ∨ c ∈ moreB) := nameB_iff c
  go_enter Tryd.func54, Tryd.ntmps54
  go_wp2
  all_goals first
    | (go_ret; refine ⟨ret_bool ?_, rfl⟩; rw [Bool.eq_iff_iff, HF.out]; simp; omega)
    | skip
  all_goals
    have HN : Hid (¬((97 ≤ c.toNat ∧ c.toNat ≤ 122) ∨ (65 ≤ c.toNat ∧ c.toNat ≤ 90) ∨ (48 ≤ c.toNat ∧ c.toNat ≤ 57))) := by
      show ¬ _
      omega
    go_loop [4] (fun i => ∃ k : Nat, k ≤ 17 ∧ i = .int .i64 k ∧ c ∉ moreB.take k) (fun i => 17 - (intOf i).toNat)
    case atStart => exact ⟨0, Nat.zero_le _, rfl, by simp⟩
    case round =>
      obtain ⟨k, hk, rfl, hp⟩ := hrel
      have HP : Hid (c ∉ moreB.take k) := hp
      clear hp
      by_cases hlt : k < 17
      · have hx : k < moreS.size := hlt
        by_cases he : ((moreS[k].toNat : Int) == (c.toNat : Int)) = true
        · have HE := more_yes hx he
          go_wp2
          go_ret
          exact ⟨ret_bool (HF.out.2 (.inr HE)).symm, rfl⟩
        · have he' : ((moreS[k].toNat : Int) == (c.toNat : Int)) = false := by simpa using he
          have HE : Hid (c ∉ moreB.take (k + 1)) := more_no hx he' HP.out
          clear he
          go_wp2
          go_round
          case rel => exact ⟨k + 1, by omega, by go_num, HE.out⟩
          case measure => simp [intOf]; omega
      · have HE : Hid (c ∉ moreB) := by
          show c ∉ moreB
          have := HP.out
          rw [List.take_of_length_le (by show 17 ≤ k; omega)] at this
          exact this
        go_wp2
        go_ret
        exact ⟨ret_bool (by symm; rw [Bool.eq_false_iff]; intro h; exact (HF.out.1 h).elim HN.out HE.out), rfl⟩
end Go.Proofs.YtdngpnlbhadbpaaDoor
