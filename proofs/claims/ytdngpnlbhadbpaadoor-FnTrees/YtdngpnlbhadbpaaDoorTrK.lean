import Derived.Test.YtdngpnlbhadbpaaDoorTrT
namespace Go.Proofs.YtdngpnlbhadbpaaDoor
open Go.ChangeShapes Go.WideShapes Go.ChangeAt Go.RowKit
set_option maxRecDepth 100000 in
set_option maxHeartbeats 40000000 in
theorem l3Token_num (s : ByteArray) (w : World) (hs : s.size ≤ 20000) (h0 : 0 < s.size) (hd : dg s[0] = true) :
    Calls Tryd.prog 56 #[.string s, .int .i64 0] w fun e w' => (∃ t, e = .returned (.agg #[.int .i64 (tokN s.data.toList).1, .string t, .int .i64 ((tokN s.data.toList).2 : Nat)])) ∧ Below w.heap.size w w' := by
  have hb := (dg_iff _).1 hd
  have z1 : ((s[0].toNat : Int) == 34) = false := by rw [beq_eq_false_iff_ne]; omega
  have z2 : ((s[0].toNat : Int) == 124) = false := by rw [beq_eq_false_iff_ne]; omega
  have z3 : ((s[0].toNat : Int) == 58) = false := by rw [beq_eq_false_iff_ne]; omega
  have z4 : ((s[0].toNat : Int) == 35) = false := by rw [beq_eq_false_iff_ne]; omega
  clear hb
  go_enter Tryd.func56, Tryd.ntmps56
  go_wp2_with (go_at_call 55; refine (l3Digit_ex _ _).mono ?_; rintro e w' ⟨rfl, rfl⟩)
  clear z1 z2 z3 z4
  go_loop [10] (fun i => ∃ k : Nat, k ≤ s.size ∧ i = .int .i64 k ∧ (s.data.toList.take k).all dg = true) (fun i => s.size - (intOf i).toNat)
  case atStart => exact ⟨0, Nat.zero_le _, rfl, rfl⟩
  case round =>
    obtain ⟨k, hk, rfl, hp⟩ := hrel
    have HP : Hid ((s.data.toList.take k).all dg = true) := hp
    clear hp
    by_cases hlt : k < s.size
    · by_cases hc : dg s[k] = true
      · go_wp2_with (go_at_call 55; refine (l3Digit_ex _ _).mono ?_; rintro e w' ⟨rfl, rfl⟩)
        go_round
        case rel => exact ⟨k + 1, by omega, by go_num, all_snoc hlt HP.out hc⟩
        case measure => simp [intOf]; omega
      · have hc' : dg s[k] = false := by simpa using hc
        have HR : Hid (runL dg s.data.toList = k) := runL_stop hlt HP.out hc'
        clear hc
        by_cases hl : 1 < k ∧ s[0].toNat = 48
        · have F : Hid (tokN s.data.toList = (0, 0)) := tokN_lead h0 (by rw [HR.out]; exact hl.1) hl.2
          have y1 : decide ((1 : Int) < (k : Int)) = true := by rw [decide_eq_true_iff]; omega
          have y2 : ((s[0].toNat : Int) == 48) = true := by rw [beq_iff_eq]; omega
          clear hl
          go_wp2_with (go_at_call 55; refine (l3Digit_ex _ _).mono ?_; rintro e w' ⟨rfl, rfl⟩)
          refine bodyPost_ret (v := .agg #[.int .i64 0, .string ⟨#[]⟩, .int .i64 0]) ?_ rfl ⟨⟨_, by rw [F.out] <;> rfl⟩, below_alloc _ _⟩
          simp [results, Tryd.results56, go_sem]
        by_cases hdot : s[k].toNat = 46
        · have y3 : ((s[k].toNat : Int) == 46) = true := by rw [beq_iff_eq]; omega
          by_cases hn : k + 1 < s.size
          · have y4 : decide ((k : Int) + 1 < (s.size : Int)) = true := by rw [decide_eq_true_iff]; omega
            by_cases hd1 : dg s[k + 1] = true
            · have HD : Hid (∀ j, j ≤ s.size → k + 1 < j → runL dg (s.data.toList.drop (k + 1)) = j - (k + 1) → tokN s.data.toList = (4, j)) := fun j hj hkj h => by
                have := tokN_dec (m := j - (k + 1)) h0 (by rw [HR.out]; exact hl) (by rw [HR.out, partL_dot hlt hdot]; exact h) (by omega)
                rw [HR.out] at this; rw [this]; congr 1; omega
              clear hdot
              by_cases h1 : 1 < k
              · have y1 : decide ((1 : Int) < (k : Int)) = true := by rw [decide_eq_true_iff]; omega
                have y2 : ((s[0].toNat : Int) == 48) = false := by rw [beq_eq_false_iff_ne]; omega
                clear hl h1
                go_wp2_with (go_at_call 55; refine (l3Digit_ex _ _).mono ?_; rintro e w' ⟨rfl, rfl⟩)
                go_loop [10] (fun i => ∃ j : Nat, k + 1 ≤ j ∧ j ≤ s.size ∧ i = .int .i64 j ∧ ((s.data.toList.drop (k + 1)).take (j - (k + 1))).all dg = true) (fun i => s.size - (intOf i).toNat)
                case atStart => exact ⟨k + 1, Nat.le_refl _, by omega, by go_num, by simp⟩
                case round =>
                  obtain ⟨j, hkj, hj, rfl, hp⟩ := hrel
                  have HP : Hid (((s.data.toList.drop (k + 1)).take (j - (k + 1))).all dg = true) := hp
                  clear hp
                  by_cases hjl : j < s.size
                  · by_cases hc : dg s[j] = true
                    · go_wp2_with (go_at_call 55; refine (l3Digit_ex _ _).mono ?_; rintro e w' ⟨rfl, rfl⟩)
                      go_round
                      case rel => exact ⟨j + 1, by omega, by omega, by go_num, all_drop_snoc hkj hjl HP.out hc⟩
                      case measure => simp [intOf]; omega
                    · have hc' : dg s[j] = false := by simpa using hc
                      have hne : j ≠ k + 1 := fun e => by subst e; rw [hd1] at hc'; cases hc'
                      have F : Hid (tokN s.data.toList = (4, j)) := HD.out j hj (by omega) (runL_drop_stop hkj hj HP.out (fun _ => hc'))
                      clear hc
                      go_wp2_with (go_at_call 55; refine (l3Digit_ex _ _).mono ?_; rintro e w' ⟨rfl, rfl⟩)
                      refine bodyPost_ret (v := .agg #[.int .i64 4, .string (s.extract 0 j), .int .i64 j]) ?_ rfl ⟨⟨_, by rw [F.out] <;> rfl⟩, below_alloc _ _⟩
                      simp [results, Tryd.results56, go_sem]
                  · have F : Hid (tokN s.data.toList = (4, j)) := HD.out j hj (by omega) (runL_drop_stop hkj hj HP.out (fun h => absurd h hjl))
                    go_wp2_with (go_at_call 55; refine (l3Digit_ex _ _).mono ?_; rintro e w' ⟨rfl, rfl⟩)
                    refine bodyPost_ret (v := .agg #[.int .i64 4, .string (s.extract 0 j), .int .i64 j]) ?_ rfl ⟨⟨_, by rw [F.out] <;> rfl⟩, below_alloc _ _⟩
                    simp [results, Tryd.results56, go_sem]
              · have y1 : decide ((1 : Int) < (k : Int)) = false := by rw [decide_eq_false_iff_not]; omega
                clear hl h1
                go_wp2_with (go_at_call 55; refine (l3Digit_ex _ _).mono ?_; rintro e w' ⟨rfl, rfl⟩)
                go_loop [10] (fun i => ∃ j : Nat, k + 1 ≤ j ∧ j ≤ s.size ∧ i = .int .i64 j ∧ ((s.data.toList.drop (k + 1)).take (j - (k + 1))).all dg = true) (fun i => s.size - (intOf i).toNat)
                case atStart => exact ⟨k + 1, Nat.le_refl _, by omega, by go_num, by simp⟩
                case round =>
                  obtain ⟨j, hkj, hj, rfl, hp⟩ := hrel
                  have HP : Hid (((s.data.toList.drop (k + 1)).take (j - (k + 1))).all dg = true) := hp
                  clear hp
                  by_cases hjl : j < s.size
                  · by_cases hc : dg s[j] = true
                    · go_wp2_with (go_at_call 55; refine (l3Digit_ex _ _).mono ?_; rintro e w' ⟨rfl, rfl⟩)
                      go_round
                      case rel => exact ⟨j + 1, by omega, by omega, by go_num, all_drop_snoc hkj hjl HP.out hc⟩
                      case measure => simp [intOf]; omega
                    · have hc' : dg s[j] = false := by simpa using hc
                      have hne : j ≠ k + 1 := fun e => by subst e; rw [hd1] at hc'; cases hc'
                      have F : Hid (tokN s.data.toList = (4, j)) := HD.out j hj (by omega) (runL_drop_stop hkj hj HP.out (fun _ => hc'))
                      clear hc
                      go_wp2_with (go_at_call 55; refine (l3Digit_ex _ _).mono ?_; rintro e w' ⟨rfl, rfl⟩)
                      refine bodyPost_ret (v := .agg #[.int .i64 4, .string (s.extract 0 j), .int .i64 j]) ?_ rfl ⟨⟨_, by rw [F.out] <;> rfl⟩, below_alloc _ _⟩
                      simp [results, Tryd.results56, go_sem]
                  · have F : Hid (tokN s.data.toList = (4, j)) := HD.out j hj (by omega) (runL_drop_stop hkj hj HP.out (fun h => absurd h hjl))
                    go_wp2_with (go_at_call 55; refine (l3Digit_ex _ _).mono ?_; rintro e w' ⟨rfl, rfl⟩)
                    refine bodyPost_ret (v := .agg #[.int .i64 4, .string (s.extract 0 j), .int .i64 j]) ?_ rfl ⟨⟨_, by rw [F.out] <;> rfl⟩, below_alloc _ _⟩
                    simp [results, Tryd.results56, go_sem]
            · have hd1' : dg s[k + 1] = false := by simpa using hd1
              clear hd1
              have F : Hid (tokN s.data.toList = (3, k)) := by
                have := tokN_int h0 (by rw [HR.out]; exact hl) (by rw [HR.out]; exact (partL_dot hlt hdot).trans (runL_drop_zero (fun _ => hd1')))
                rw [HR.out] at this; exact this
              try clear hdot
              by_cases h1 : 1 < k
              · have y1 : decide ((1 : Int) < (k : Int)) = true := by rw [decide_eq_true_iff]; omega
                have y2 : ((s[0].toNat : Int) == 48) = false := by rw [beq_eq_false_iff_ne]; omega
                clear hl h1
                go_wp2_with (go_at_call 55; refine (l3Digit_ex _ _).mono ?_; rintro e w' ⟨rfl, rfl⟩)
                refine bodyPost_ret (v := .agg #[.int .i64 3, .string (s.extract 0 k), .int .i64 k]) ?_ rfl ⟨⟨_, by rw [F.out] <;> rfl⟩, below_alloc _ _⟩
                simp [results, Tryd.results56, go_sem]
              · have y1 : decide ((1 : Int) < (k : Int)) = false := by rw [decide_eq_false_iff_not]; omega
                clear hl h1
                go_wp2_with (go_at_call 55; refine (l3Digit_ex _ _).mono ?_; rintro e w' ⟨rfl, rfl⟩)
                refine bodyPost_ret (v := .agg #[.int .i64 3, .string (s.extract 0 k), .int .i64 k]) ?_ rfl ⟨⟨_, by rw [F.out] <;> rfl⟩, below_alloc _ _⟩
                simp [results, Tryd.results56, go_sem]
          · have y4 : decide ((k : Int) + 1 < (s.size : Int)) = false := by rw [decide_eq_false_iff_not]; omega
            have F : Hid (tokN s.data.toList = (3, k)) := by
              have := tokN_int h0 (by rw [HR.out]; exact hl) (by rw [HR.out]; exact (partL_dot hlt hdot).trans (runL_drop_zero (fun h => absurd h hn)))
              rw [HR.out] at this; exact this
            try clear hdot
            by_cases h1 : 1 < k
            · have y1 : decide ((1 : Int) < (k : Int)) = true := by rw [decide_eq_true_iff]; omega
              have y2 : ((s[0].toNat : Int) == 48) = false := by rw [beq_eq_false_iff_ne]; omega
              clear hl h1
              go_wp2_with (go_at_call 55; refine (l3Digit_ex _ _).mono ?_; rintro e w' ⟨rfl, rfl⟩)
              refine bodyPost_ret (v := .agg #[.int .i64 3, .string (s.extract 0 k), .int .i64 k]) ?_ rfl ⟨⟨_, by rw [F.out] <;> rfl⟩, below_alloc _ _⟩
              simp [results, Tryd.results56, go_sem]
            · have y1 : decide ((1 : Int) < (k : Int)) = false := by rw [decide_eq_false_iff_not]; omega
              clear hl h1
              go_wp2_with (go_at_call 55; refine (l3Digit_ex _ _).mono ?_; rintro e w' ⟨rfl, rfl⟩)
              refine bodyPost_ret (v := .agg #[.int .i64 3, .string (s.extract 0 k), .int .i64 k]) ?_ rfl ⟨⟨_, by rw [F.out] <;> rfl⟩, below_alloc _ _⟩
              simp [results, Tryd.results56, go_sem]
        · have y3 : ((s[k].toNat : Int) == 46) = false := by rw [beq_eq_false_iff_ne]; omega
          by_cases hn : k + 1 < s.size
          · have y4 : decide ((k : Int) + 1 < (s.size : Int)) = true := by rw [decide_eq_true_iff]; omega
            have F : Hid (tokN s.data.toList = (3, k)) := by
              have := tokN_int h0 (by rw [HR.out]; exact hl) (by rw [HR.out]; exact partL_other hlt hdot)
              rw [HR.out] at this; exact this
            try clear hdot
            by_cases h1 : 1 < k
            · have y1 : decide ((1 : Int) < (k : Int)) = true := by rw [decide_eq_true_iff]; omega
              have y2 : ((s[0].toNat : Int) == 48) = false := by rw [beq_eq_false_iff_ne]; omega
              clear hl h1
              go_wp2_with (go_at_call 55; refine (l3Digit_ex _ _).mono ?_; rintro e w' ⟨rfl, rfl⟩)
              refine bodyPost_ret (v := .agg #[.int .i64 3, .string (s.extract 0 k), .int .i64 k]) ?_ rfl ⟨⟨_, by rw [F.out] <;> rfl⟩, below_alloc _ _⟩
              simp [results, Tryd.results56, go_sem]
            · have y1 : decide ((1 : Int) < (k : Int)) = false := by rw [decide_eq_false_iff_not]; omega
              clear hl h1
              go_wp2_with (go_at_call 55; refine (l3Digit_ex _ _).mono ?_; rintro e w' ⟨rfl, rfl⟩)
              refine bodyPost_ret (v := .agg #[.int .i64 3, .string (s.extract 0 k), .int .i64 k]) ?_ rfl ⟨⟨_, by rw [F.out] <;> rfl⟩, below_alloc _ _⟩
              simp [results, Tryd.results56, go_sem]
          · have y4 : decide ((k : Int) + 1 < (s.size : Int)) = false := by rw [decide_eq_false_iff_not]; omega
            have F : Hid (tokN s.data.toList = (3, k)) := by
              have := tokN_int h0 (by rw [HR.out]; exact hl) (by rw [HR.out]; exact partL_other hlt hdot)
              rw [HR.out] at this; exact this
            try clear hdot
            by_cases h1 : 1 < k
            · have y1 : decide ((1 : Int) < (k : Int)) = true := by rw [decide_eq_true_iff]; omega
              have y2 : ((s[0].toNat : Int) == 48) = false := by rw [beq_eq_false_iff_ne]; omega
              clear hl h1
              go_wp2_with (go_at_call 55; refine (l3Digit_ex _ _).mono ?_; rintro e w' ⟨rfl, rfl⟩)
              refine bodyPost_ret (v := .agg #[.int .i64 3, .string (s.extract 0 k), .int .i64 k]) ?_ rfl ⟨⟨_, by rw [F.out] <;> rfl⟩, below_alloc _ _⟩
              simp [results, Tryd.results56, go_sem]
            · have y1 : decide ((1 : Int) < (k : Int)) = false := by rw [decide_eq_false_iff_not]; omega
              clear hl h1
              go_wp2_with (go_at_call 55; refine (l3Digit_ex _ _).mono ?_; rintro e w' ⟨rfl, rfl⟩)
              refine bodyPost_ret (v := .agg #[.int .i64 3, .string (s.extract 0 k), .int .i64 k]) ?_ rfl ⟨⟨_, by rw [F.out] <;> rfl⟩, below_alloc _ _⟩
              simp [results, Tryd.results56, go_sem]
    · have HR : Hid (runL dg s.data.toList = k) := by
        show runL dg s.data.toList = k
        rw [runL_end hlt HP.out]; omega
      have y4 : decide ((k : Int) + 1 < (s.size : Int)) = false := by rw [decide_eq_false_iff_not]; omega
      by_cases hl : 1 < k ∧ s[0].toNat = 48
      · have F : Hid (tokN s.data.toList = (0, 0)) := tokN_lead h0 (by rw [HR.out]; exact hl.1) hl.2
        have y1 : decide ((1 : Int) < (k : Int)) = true := by rw [decide_eq_true_iff]; omega
        have y2 : ((s[0].toNat : Int) == 48) = true := by rw [beq_iff_eq]; omega
        clear hl
        go_wp2_with (go_at_call 55; refine (l3Digit_ex _ _).mono ?_; rintro e w' ⟨rfl, rfl⟩)
        refine bodyPost_ret (v := .agg #[.int .i64 0, .string ⟨#[]⟩, .int .i64 0]) ?_ rfl ⟨⟨_, by rw [F.out] <;> rfl⟩, below_alloc _ _⟩
        simp [results, Tryd.results56, go_sem]
      have F : Hid (tokN s.data.toList = (3, k)) := by
        have := tokN_int h0 (by rw [HR.out]; exact hl) (by rw [HR.out]; exact partL_end hlt)
        rw [HR.out] at this; exact this
      try clear hdot
      by_cases h1 : 1 < k
      · have y1 : decide ((1 : Int) < (k : Int)) = true := by rw [decide_eq_true_iff]; omega
        have y2 : ((s[0].toNat : Int) == 48) = false := by rw [beq_eq_false_iff_ne]; omega
        clear hl h1
        go_wp2_with (go_at_call 55; refine (l3Digit_ex _ _).mono ?_; rintro e w' ⟨rfl, rfl⟩)
        refine bodyPost_ret (v := .agg #[.int .i64 3, .string (s.extract 0 k), .int .i64 k]) ?_ rfl ⟨⟨_, by rw [F.out] <;> rfl⟩, below_alloc _ _⟩
        simp [results, Tryd.results56, go_sem]
      · have y1 : decide ((1 : Int) < (k : Int)) = false := by rw [decide_eq_false_iff_not]; omega
        clear hl h1
        go_wp2_with (go_at_call 55; refine (l3Digit_ex _ _).mono ?_; rintro e w' ⟨rfl, rfl⟩)
        refine bodyPost_ret (v := .agg #[.int .i64 3, .string (s.extract 0 k), .int .i64 k]) ?_ rfl ⟨⟨_, by rw [F.out] <;> rfl⟩, below_alloc _ _⟩
        simp [results, Tryd.results56, go_sem]
end Go.Proofs.YtdngpnlbhadbpaaDoor
