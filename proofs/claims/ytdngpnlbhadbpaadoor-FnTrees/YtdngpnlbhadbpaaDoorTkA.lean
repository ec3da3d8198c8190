import Derived.Test.YtdngpnlbhadbpaaDoorTrX
namespace Go.Proofs.YtdngpnlbhadbpaaDoor
open Go.ChangeShapes Go.WideShapes Go.ChangeAt Go.RowKit
def resK (k : Int) (t : ByteArray) (n : Nat) : Ending := .returned (.agg #[.int .i64 k, .string t, .int .i64 (n : Nat)])
theorem u8_is {c d : UInt8} (e : c.toNat = d.toNat) : c = d := UInt8.toNat_inj.1 e
theorem nameB_ne {c : UInt8} (h : nameB c = true) : c.toNat ≠ 34 ∧ c.toNat ≠ 124 ∧ c.toNat ≠ 58 ∧ c.toNat ≠ 35 := by
  refine ⟨fun e => ?_, fun e => ?_, fun e => ?_, fun e => ?_⟩
  · rw [u8_is (d := 34) e] at h; revert h; decide
  · rw [u8_is (d := 124) e] at h; revert h; decide
  · rw [u8_is (d := 58) e] at h; revert h; decide
  · rw [u8_is (d := 35) e] at h; revert h; decide
set_option maxRecDepth 100000 in
set_option maxHeartbeats 4000000 in
theorem l3Token_name (s : ByteArray) (i r : Nat) (w : World) (hs : s.size ≤ 20000) (hi : i < s.size) (hd : nameB s[i] = true) (hg : dg s[i] = false) (hr : runL nameB (s.data.toList.drop i) = r) :
    Calls Tryd.prog 56 #[.string s, .int .i64 (i : Nat)] w fun e w' => e = resK 2 (s.extract i (i + r)) (i + r) ∧ Below w.heap.size w w' := by
  have HR : Hid (∀ j, i ≤ j → j ≤ s.size → runL nameB (s.data.toList.drop i) = j - i → j = i + r) := fun j h1 h2 h3 => by omega
  have hb := nameB_ne hd
  have z1 : ((s[i].toNat : Int) == 34) = false := by rw [beq_eq_false_iff_ne]; omega
  have z2 : ((s[i].toNat : Int) == 124) = false := by rw [beq_eq_false_iff_ne]; omega
  have z3 : ((s[i].toNat : Int) == 58) = false := by rw [beq_eq_false_iff_ne]; omega
  have z4 : ((s[i].toNat : Int) == 35) = false := by rw [beq_eq_false_iff_ne]; omega
  clear hb hr
  go_enter Tryd.func56, Tryd.ntmps56
  go_wp2_with first
    | (go_at_call 55; refine (l3Digit_ex _ _).mono ?_; rintro e w' ⟨rfl, rfl⟩)
    | (go_at_call 54; refine (l3NameByte_ex _ _).mono ?_; rintro e w' ⟨rfl, rfl⟩)
  clear z1 z2 z3 z4
  go_loop [11] (fun v => ∃ k : Nat, i ≤ k ∧ k ≤ s.size ∧ v = .int .i64 k ∧ ((s.data.toList.drop i).take (k - i)).all nameB = true) (fun v => s.size - (intOf v).toNat)
  case atStart => exact ⟨i, Nat.le_refl _, by omega, rfl, by simp⟩
  case round =>
    obtain ⟨k, hik, hk, rfl, hp⟩ := hrel
    have HP : Hid (((s.data.toList.drop i).take (k - i)).all nameB = true) := hp
    clear hp
    by_cases hlt : k < s.size
    · by_cases hc : nameB s[k] = true
      · go_wp2_with (go_at_call 54; refine (l3NameByte_ex _ _).mono ?_; rintro e w' ⟨rfl, rfl⟩)
        go_round
        case rel => exact ⟨k + 1, by omega, by omega, by go_num, all_drop_snoc hik hlt HP.out hc⟩
        case measure => simp [intOf]; omega
      · have hc' : nameB s[k] = false := by simpa using hc
        have F : Hid (k = i + r) := HR.out k hik hk (runL_drop_stop hik hk HP.out (fun _ => hc'))
        clear hc
        go_wp2_with (go_at_call 54; refine (l3NameByte_ex _ _).mono ?_; rintro e w' ⟨rfl, rfl⟩)
        refine bodyPost_ret (v := .agg #[.int .i64 2, .string (s.extract i k), .int .i64 k]) ?_ rfl ⟨by rw [F.out]; rfl, below_alloc _ _⟩
        simp [results, Tryd.results56, go_sem]
    · have F : Hid (k = i + r) := HR.out k hik hk (runL_drop_stop hik hk HP.out (fun h => absurd h hlt))
      go_wp2_with (go_at_call 54; refine (l3NameByte_ex _ _).mono ?_; rintro e w' ⟨rfl, rfl⟩)
      refine bodyPost_ret (v := .agg #[.int .i64 2, .string (s.extract i k), .int .i64 k]) ?_ rfl ⟨by rw [F.out]; rfl, below_alloc _ _⟩
      simp [results, Tryd.results56, go_sem]
end Go.Proofs.YtdngpnlbhadbpaaDoor
