import Derived.Test.YtdngpnlbhadbpaaDoorTrN
import Derived.Lib.IndexLaws
import Derived.Lib.Bytealg
namespace Go.Proofs.YtdngpnlbhadbpaaDoor
open Go.ChangeShapes Go.WideShapes Go.ChangeAt Go.RowKit
set_option maxRecDepth 100000 in
set_option maxHeartbeats 1000000 in
theorem indexByte_any (s : ByteArray) (c : Int) (w : World) :
    Calls Tryd.prog 45 #[.string s, .int .u8 c] w fun e w' => e = .returned (.int .i64 (Lib.indexByte s.data.toList c.toNat.toUInt8)) ∧ w' = w := by
  go_enter Tryd.func45, Tryd.ntmps45
  go_wp2
  rw [run_callFunc_extern Tryd.func61 (by kernel_rfl) (by kernel_rfl) (by kernel_rfl) (e := Extern.BytealgIndexByte.indexByte) (by kernel_rfl), Lib.run_indexByteString]
  simp only [Result.andThen]
  rw [Oper.upon_value]
  go_wp2
  go_ret
  exact ⟨rfl, rfl⟩
theorem index_more {c : UInt8} (h : c ∈ moreB) : decide (0 ≤ Lib.indexByte moreB c) = true := by
  rw [decide_eq_true_iff]
  have h1 := Lib.indexByte_ge moreB c
  by_cases h2 : Lib.indexByte moreB c = -1
  · obtain ⟨k, hk, e⟩ := List.getElem_of_mem h
    exact absurd (by rw [List.getElem?_eq_getElem hk, e]) (Lib.indexByte_none h2 k)
  · omega
theorem index_nomore {c : UInt8} (h : c ∉ moreB) : decide (0 ≤ Lib.indexByte moreB c) = false := by
  rw [decide_eq_false_iff_not]
  intro h0
  obtain ⟨o, ho⟩ := Int.eq_ofNat_of_zero_le h0
  have := (Lib.indexByte_some ho).1
  exact h (List.mem_of_getElem? this)
set_option maxRecDepth 100000 in
set_option maxHeartbeats 1000000 in
theorem isNameByte_ex (c : UInt8) (w : World) :
    Calls Tryd.prog 44 #[.int .u8 (c.toNat : Int)] w fun e w' => e = .returned (.bool (nameB c)) ∧ w' = w := by
  have HF : Hid (nameB c = true ↔ ((97 ≤ c.toNat ∧ c.toNat ≤ 122) ∨ (65 ≤ c.toNat ∧ c.toNat ≤ 90) ∨ (48 ≤ c.toNat ∧ c.toNat ≤ 57)) ∨ c ∈ moreB) := nameB_iff c
  have HC : Hid (((c.toNat : Int)).toNat.toUInt8 = c) := by show _ = _; simp
  by_cases hm : c ∈ moreB
  · have z := index_more hm
    have HM := hm
    clear hm
    go_enter Tryd.func44, Tryd.ntmps44
    go_wp2_with (first | (go_at_call 45; refine (indexByte_any _ _ _).mono ?_; rintro e w' ⟨rfl, rfl⟩; rw [HC.out, more_toList]) | go_in)
    all_goals go_ret
    all_goals exact ⟨ret_bool (HF.out.2 (.inr HM)).symm, rfl⟩
  · have z := index_nomore hm
    have HM : Hid (c ∉ moreB) := hm
    clear hm
    go_enter Tryd.func44, Tryd.ntmps44
    go_wp2_with (first | (go_at_call 45; refine (indexByte_any _ _ _).mono ?_; rintro e w' ⟨rfl, rfl⟩; rw [HC.out, more_toList]) | go_in)
    all_goals go_ret
    all_goals refine ⟨ret_bool ?_, rfl⟩
    all_goals first
      | exact (HF.out.2 (.inl (by omega))).symm
      | (have hn : nameB c = false := by (rw [Bool.eq_false_iff]; intro h; exact (HF.out.1 h).elim (by omega) HM.out)
         rw [hn]; simp; omega)
      | (have hn : nameB c = false := by (rw [Bool.eq_false_iff]; intro h; exact (HF.out.1 h).elim (by omega) HM.out)
         rw [hn])
end Go.Proofs.YtdngpnlbhadbpaaDoor
