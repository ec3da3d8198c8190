import Derived.Test.YtdngpnlbhadbpaaTkC
namespace Go.Proofs.Ytdngpnlbhadbpaa
open Go.ChangeShapes Go.WideShapes Go.ChangeAt Go.RowKit
def numR (s : ByteArray) (i : Nat) : Ending :=
  if (tokN (s.data.toList.drop i)).1 = 0 then resK 0 ⟨#[]⟩ 0 else resK (tokN (s.data.toList.drop i)).1 (s.extract i (i + (tokN (s.data.toList.drop i)).2)) (i + (tokN (s.data.toList.drop i)).2)
theorem numR_of {s : ByteArray} {i n : Nat} {c : Int} (h : tokN (s.data.toList.drop i) = (c, n)) (hc : c ≠ 0) {k : Nat} (e : k = i + n) : Ending.returned (.agg #[.int .i64 c, .string (s.extract i k), .int .i64 (k : Nat)]) = numR s i := by
  subst e; unfold numR; rw [h]; rw [if_neg hc]; rfl
theorem partL_at {s : ByteArray} {i k : Nat} (hik : i ≤ k) : partL (s.data.toList.drop i) (k - i) = partL s.data.toList k := by
  unfold partL; rw [List.drop_drop, show i + (k - i) = k by omega]
theorem head_at_i {s : ByteArray} {i : Nat} (hi : i < s.size) : (s.data.toList.drop i).head? = some s[i] := by rw [drop_cons hi]; rfl
theorem numR_lead {s : ByteArray} {i k : Nat} (hi : i < s.size) (hr : runL dg (s.data.toList.drop i) = k - i) (h1 : i + 1 < k) (h2 : s[i].toNat = 48) : Ending.returned (.agg #[.int .i64 0, .string ⟨#[]⟩, .int .i64 0]) = numR s i := by
  have h : tokN (s.data.toList.drop i) = (0, 0) := by
    unfold tokN; rw [if_pos ⟨by omega, by rw [head_at_i hi, u8_is (d := 48) h2]⟩]
  unfold numR; rw [h]; rfl
theorem notLead {s : ByteArray} {i k : Nat} (hi : i < s.size) (hr : runL dg (s.data.toList.drop i) = k - i) (h1 : ¬ (i + 1 < k ∧ s[i].toNat = 48)) : ¬ (1 < runL dg (s.data.toList.drop i) ∧ (s.data.toList.drop i).head? = some 48) := by
  rintro ⟨a, b⟩
  rw [head_at_i hi] at b
  have b' : s[i] = 48 := Option.some.inj b
  exact h1 ⟨by omega, by rw [b']; rfl⟩
theorem numR_int {s : ByteArray} {i k : Nat} (hi : i < s.size) (hik : i ≤ k) (hr : runL dg (s.data.toList.drop i) = k - i) (h1 : ¬ (i + 1 < k ∧ s[i].toNat = 48)) (hp : partL s.data.toList k = 0) : Ending.returned (.agg #[.int .i64 3, .string (s.extract i k), .int .i64 (k : Nat)]) = numR s i := by
  refine numR_of (n := k - i) ?_ (by decide) (by omega)
  unfold tokN; rw [if_neg (notLead hi hr h1), hr, partL_at hik, hp, if_neg (Nat.lt_irrefl _)]
theorem numR_dec {s : ByteArray} {i k j : Nat} (hi : i < s.size) (hik : i ≤ k) (hr : runL dg (s.data.toList.drop i) = k - i) (h1 : ¬ (i + 1 < k ∧ s[i].toNat = 48)) (hk : k < s.size) (hd : s[k].toNat = 46) (hp : runL dg (s.data.toList.drop (k + 1)) = j - (k + 1)) (hj : k + 1 < j) : Ending.returned (.agg #[.int .i64 4, .string (s.extract i j), .int .i64 (j : Nat)]) = numR s i := by
  refine numR_of (n := j - i) ?_ (by decide) (by omega)
  unfold tokN; rw [if_neg (notLead hi hr h1), hr, partL_at hik, partL_dot hk hd, hp, if_pos (by omega)]
  congr 1; omega
set_option maxRecDepth 100000 in
set_option maxHeartbeats 40000000 in
theorem l3Token_dig (s : ByteArray) (i : Nat) (w : World) (hs : s.size ≤ 20000) (hi : i < s.size) (hd : dg s[i] = true) :
    Calls Try.prog 10 #[.string s, .int .i64 (i : Nat)] w fun e w' => e = numR s i ∧ Below w.heap.size w w' := by
  have hb := (dg_iff _).1 hd
  have z1 : ((s[i].toNat : Int) == 34) = false := by rw [beq_eq_false_iff_ne]; omega
  have z2 : ((s[i].toNat : Int) == 124) = false := by rw [beq_eq_false_iff_ne]; omega
  have z3 : ((s[i].toNat : Int) == 58) = false := by rw [beq_eq_false_iff_ne]; omega
  have z4 : ((s[i].toNat : Int) == 35) = false := by rw [beq_eq_false_iff_ne]; omega
  clear hb
  go_enter Try.func10, Try.ntmps10
  go_wp2_with (go_at_call 22; refine (l3Digit_ex _ _).mono ?_; rintro e w' ⟨rfl, rfl⟩)
  clear z1 z2 z3 z4
  go_loop [10] (fun v => ∃ k : Nat, i ≤ k ∧ k ≤ s.size ∧ v = .int .i64 k ∧ ((s.data.toList.drop i).take (k - i)).all dg = true) (fun i => s.size - (intOf i).toNat)
  case atStart => exact ⟨i, Nat.le_refl _, by omega, rfl, by simp⟩
  case round =>
    obtain ⟨k, hik, hk, rfl, hp⟩ := hrel
    have HP : Hid (((s.data.toList.drop i).take (k - i)).all dg = true) := hp
    clear hp
    by_cases hlt : k < s.size
    · by_cases hc : dg s[k] = true
      · go_wp2_with (go_at_call 22; refine (l3Digit_ex _ _).mono ?_; rintro e w' ⟨rfl, rfl⟩)
        go_round
        case rel => exact ⟨k + 1, by omega, by omega, by go_num, all_drop_snoc hik hlt HP.out hc⟩
        case measure => simp [intOf]; omega
      · have hc' : dg s[k] = false := by simpa using hc
        have HR : Hid (runL dg (s.data.toList.drop i) = k - i) := runL_drop_stop hik hk HP.out (fun _ => hc')
        clear hc
        by_cases hl : i + 1 < k ∧ s[i].toNat = 48
        · have F := hidG (numR_lead hi HR.out hl.1 hl.2)
          have y1 : decide ((i : Int) + 1 < (k : Int)) = true := by rw [decide_eq_true_iff]; omega
          have y2 : ((s[i].toNat : Int) == 48) = true := by rw [beq_iff_eq]; omega
          clear hl
          go_wp2_with (go_at_call 22; refine (l3Digit_ex _ _).mono ?_; rintro e w' ⟨rfl, rfl⟩)
          refine bodyPost_ret (v := .agg #[.int .i64 0, .string ⟨#[]⟩, .int .i64 0]) ?_ rfl ⟨F.out, below_alloc _ _⟩
          simp [results, Try.results10, go_sem]
        by_cases hdot : s[k].toNat = 46
        · have y3 : ((s[k].toNat : Int) == 46) = true := by rw [beq_iff_eq]; omega
          by_cases hn : k + 1 < s.size
          · have y4 : decide ((k : Int) + 1 < (s.size : Int)) = true := by rw [decide_eq_true_iff]; omega
            by_cases hd1 : dg s[k + 1] = true
            · have HD : Hid (∀ j, j ≤ s.size → k + 1 < j → runL dg (s.data.toList.drop (k + 1)) = j - (k + 1) → Ending.returned (.agg #[.int .i64 4, .string (s.extract i j), .int .i64 (j : Nat)]) = numR s i) := fun j hj hkj h => numR_dec hi hik HR.out hl hlt hdot h hkj
              clear hdot
              by_cases h1 : i + 1 < k
              · have y1 : decide ((i : Int) + 1 < (k : Int)) = true := by rw [decide_eq_true_iff]; omega
                have y2 : ((s[i].toNat : Int) == 48) = false := by rw [beq_eq_false_iff_ne]; omega
                clear hl h1
                go_wp2_with (go_at_call 22; refine (l3Digit_ex _ _).mono ?_; rintro e w' ⟨rfl, rfl⟩)
                go_loop [10] (fun i => ∃ j : Nat, k + 1 ≤ j ∧ j ≤ s.size ∧ i = .int .i64 j ∧ ((s.data.toList.drop (k + 1)).take (j - (k + 1))).all dg = true) (fun i => s.size - (intOf i).toNat)
                case atStart => exact ⟨k + 1, Nat.le_refl _, by omega, by go_num, by simp⟩
                case round =>
                  obtain ⟨j, hkj, hj, rfl, hp⟩ := hrel
                  have HP : Hid (((s.data.toList.drop (k + 1)).take (j - (k + 1))).all dg = true) := hp
                  clear hp
                  by_cases hjl : j < s.size
                  · by_cases hc : dg s[j] = true
                    · go_wp2_with (go_at_call 22; refine (l3Digit_ex _ _).mono ?_; rintro e w' ⟨rfl, rfl⟩)
                      go_round
                      case rel => exact ⟨j + 1, by omega, by omega, by go_num, all_drop_snoc hkj hjl HP.out hc⟩
                      case measure => simp [intOf]; omega
                    · have hc' : dg s[j] = false := by simpa using hc
                      have hne : j ≠ k + 1 := fun e => by subst e; rw [hd1] at hc'; cases hc'
                      have F := hidG (HD.out j hj (by omega) (runL_drop_stop hkj hj HP.out (fun _ => hc')))
                      clear hc
                      go_wp2_with (go_at_call 22; refine (l3Digit_ex _ _).mono ?_; rintro e w' ⟨rfl, rfl⟩)
                      refine bodyPost_ret (v := .agg #[.int .i64 4, .string (s.extract i j), .int .i64 j]) ?_ rfl ⟨F.out, below_alloc _ _⟩
                      simp [results, Try.results10, go_sem]
                  · have F := hidG (HD.out j hj (by omega) (runL_drop_stop hkj hj HP.out (fun h => absurd h hjl)))
                    go_wp2_with (go_at_call 22; refine (l3Digit_ex _ _).mono ?_; rintro e w' ⟨rfl, rfl⟩)
                    refine bodyPost_ret (v := .agg #[.int .i64 4, .string (s.extract i j), .int .i64 j]) ?_ rfl ⟨F.out, below_alloc _ _⟩
                    simp [results, Try.results10, go_sem]
              · have y1 : decide ((i : Int) + 1 < (k : Int)) = false := by rw [decide_eq_false_iff_not]; omega
                clear hl h1
                go_wp2_with (go_at_call 22; refine (l3Digit_ex _ _).mono ?_; rintro e w' ⟨rfl, rfl⟩)
                go_loop [10] (fun i => ∃ j : Nat, k + 1 ≤ j ∧ j ≤ s.size ∧ i = .int .i64 j ∧ ((s.data.toList.drop (k + 1)).take (j - (k + 1))).all dg = true) (fun i => s.size - (intOf i).toNat)
                case atStart => exact ⟨k + 1, Nat.le_refl _, by omega, by go_num, by simp⟩
                case round =>
                  obtain ⟨j, hkj, hj, rfl, hp⟩ := hrel
                  have HP : Hid (((s.data.toList.drop (k + 1)).take (j - (k + 1))).all dg = true) := hp
                  clear hp
                  by_cases hjl : j < s.size
                  · by_cases hc : dg s[j] = true
                    · go_wp2_with (go_at_call 22; refine (l3Digit_ex _ _).mono ?_; rintro e w' ⟨rfl, rfl⟩)
                      go_round
                      case rel => exact ⟨j + 1, by omega, by omega, by go_num, all_drop_snoc hkj hjl HP.out hc⟩
                      case measure => simp [intOf]; omega
                    · have hc' : dg s[j] = false := by simpa using hc
                      have hne : j ≠ k + 1 := fun e => by subst e; rw [hd1] at hc'; cases hc'
                      have F := hidG (HD.out j hj (by omega) (runL_drop_stop hkj hj HP.out (fun _ => hc')))
                      clear hc
                      go_wp2_with (go_at_call 22; refine (l3Digit_ex _ _).mono ?_; rintro e w' ⟨rfl, rfl⟩)
                      refine bodyPost_ret (v := .agg #[.int .i64 4, .string (s.extract i j), .int .i64 j]) ?_ rfl ⟨F.out, below_alloc _ _⟩
                      simp [results, Try.results10, go_sem]
                  · have F := hidG (HD.out j hj (by omega) (runL_drop_stop hkj hj HP.out (fun h => absurd h hjl)))
                    go_wp2_with (go_at_call 22; refine (l3Digit_ex _ _).mono ?_; rintro e w' ⟨rfl, rfl⟩)
                    refine bodyPost_ret (v := .agg #[.int .i64 4, .string (s.extract i j), .int .i64 j]) ?_ rfl ⟨F.out, below_alloc _ _⟩
                    simp [results, Try.results10, go_sem]
            · have hd1' : dg s[k + 1] = false := by simpa using hd1
              clear hd1
              have F := hidG (numR_int hi hik HR.out hl ((partL_dot hlt hdot).trans (runL_drop_zero (fun _ => hd1'))))
              try clear hdot
              by_cases h1 : i + 1 < k
              · have y1 : decide ((i : Int) + 1 < (k : Int)) = true := by rw [decide_eq_true_iff]; omega
                have y2 : ((s[i].toNat : Int) == 48) = false := by rw [beq_eq_false_iff_ne]; omega
                clear hl h1
                go_wp2_with (go_at_call 22; refine (l3Digit_ex _ _).mono ?_; rintro e w' ⟨rfl, rfl⟩)
                refine bodyPost_ret (v := .agg #[.int .i64 3, .string (s.extract i k), .int .i64 k]) ?_ rfl ⟨F.out, below_alloc _ _⟩
                simp [results, Try.results10, go_sem]
              · have y1 : decide ((i : Int) + 1 < (k : Int)) = false := by rw [decide_eq_false_iff_not]; omega
                clear hl h1
                go_wp2_with (go_at_call 22; refine (l3Digit_ex _ _).mono ?_; rintro e w' ⟨rfl, rfl⟩)
                refine bodyPost_ret (v := .agg #[.int .i64 3, .string (s.extract i k), .int .i64 k]) ?_ rfl ⟨F.out, below_alloc _ _⟩
                simp [results, Try.results10, go_sem]
          · have y4 : decide ((k : Int) + 1 < (s.size : Int)) = false := by rw [decide_eq_false_iff_not]; omega
            have F := hidG (numR_int hi hik HR.out hl ((partL_dot hlt hdot).trans (runL_drop_zero (fun h => absurd h hn))))
            try clear hdot
            by_cases h1 : i + 1 < k
            · have y1 : decide ((i : Int) + 1 < (k : Int)) = true := by rw [decide_eq_true_iff]; omega
              have y2 : ((s[i].toNat : Int) == 48) = false := by rw [beq_eq_false_iff_ne]; omega
              clear hl h1
              go_wp2_with (go_at_call 22; refine (l3Digit_ex _ _).mono ?_; rintro e w' ⟨rfl, rfl⟩)
              refine bodyPost_ret (v := .agg #[.int .i64 3, .string (s.extract i k), .int .i64 k]) ?_ rfl ⟨F.out, below_alloc _ _⟩
              simp [results, Try.results10, go_sem]
            · have y1 : decide ((i : Int) + 1 < (k : Int)) = false := by rw [decide_eq_false_iff_not]; omega
              clear hl h1
              go_wp2_with (go_at_call 22; refine (l3Digit_ex _ _).mono ?_; rintro e w' ⟨rfl, rfl⟩)
              refine bodyPost_ret (v := .agg #[.int .i64 3, .string (s.extract i k), .int .i64 k]) ?_ rfl ⟨F.out, below_alloc _ _⟩
              simp [results, Try.results10, go_sem]
        · have y3 : ((s[k].toNat : Int) == 46) = false := by rw [beq_eq_false_iff_ne]; omega
          by_cases hn : k + 1 < s.size
          · have y4 : decide ((k : Int) + 1 < (s.size : Int)) = true := by rw [decide_eq_true_iff]; omega
            have F := hidG (numR_int hi hik HR.out hl (partL_other hlt hdot))
            try clear hdot
            by_cases h1 : i + 1 < k
            · have y1 : decide ((i : Int) + 1 < (k : Int)) = true := by rw [decide_eq_true_iff]; omega
              have y2 : ((s[i].toNat : Int) == 48) = false := by rw [beq_eq_false_iff_ne]; omega
              clear hl h1
              go_wp2_with (go_at_call 22; refine (l3Digit_ex _ _).mono ?_; rintro e w' ⟨rfl, rfl⟩)
              refine bodyPost_ret (v := .agg #[.int .i64 3, .string (s.extract i k), .int .i64 k]) ?_ rfl ⟨F.out, below_alloc _ _⟩
              simp [results, Try.results10, go_sem]
            · have y1 : decide ((i : Int) + 1 < (k : Int)) = false := by rw [decide_eq_false_iff_not]; omega
              clear hl h1
              go_wp2_with (go_at_call 22; refine (l3Digit_ex _ _).mono ?_; rintro e w' ⟨rfl, rfl⟩)
              refine bodyPost_ret (v := .agg #[.int .i64 3, .string (s.extract i k), .int .i64 k]) ?_ rfl ⟨F.out, below_alloc _ _⟩
              simp [results, Try.results10, go_sem]
          · have y4 : decide ((k : Int) + 1 < (s.size : Int)) = false := by rw [decide_eq_false_iff_not]; omega
            have F := hidG (numR_int hi hik HR.out hl (partL_other hlt hdot))
            try clear hdot
            by_cases h1 : i + 1 < k
            · have y1 : decide ((i : Int) + 1 < (k : Int)) = true := by rw [decide_eq_true_iff]; omega
              have y2 : ((s[i].toNat : Int) == 48) = false := by rw [beq_eq_false_iff_ne]; omega
              clear hl h1
              go_wp2_with (go_at_call 22; refine (l3Digit_ex _ _).mono ?_; rintro e w' ⟨rfl, rfl⟩)
              refine bodyPost_ret (v := .agg #[.int .i64 3, .string (s.extract i k), .int .i64 k]) ?_ rfl ⟨F.out, below_alloc _ _⟩
              simp [results, Try.results10, go_sem]
            · have y1 : decide ((i : Int) + 1 < (k : Int)) = false := by rw [decide_eq_false_iff_not]; omega
              clear hl h1
              go_wp2_with (go_at_call 22; refine (l3Digit_ex _ _).mono ?_; rintro e w' ⟨rfl, rfl⟩)
              refine bodyPost_ret (v := .agg #[.int .i64 3, .string (s.extract i k), .int .i64 k]) ?_ rfl ⟨F.out, below_alloc _ _⟩
              simp [results, Try.results10, go_sem]
    · have HR : Hid (runL dg (s.data.toList.drop i) = k - i) := runL_drop_stop hik hk HP.out (fun h => absurd h hlt)
      have y4 : decide ((k : Int) + 1 < (s.size : Int)) = false := by rw [decide_eq_false_iff_not]; omega
      by_cases hl : i + 1 < k ∧ s[i].toNat = 48
      · have F := hidG (numR_lead hi HR.out hl.1 hl.2)
        have y1 : decide ((i : Int) + 1 < (k : Int)) = true := by rw [decide_eq_true_iff]; omega
        have y2 : ((s[i].toNat : Int) == 48) = true := by rw [beq_iff_eq]; omega
        clear hl
        go_wp2_with (go_at_call 22; refine (l3Digit_ex _ _).mono ?_; rintro e w' ⟨rfl, rfl⟩)
        refine bodyPost_ret (v := .agg #[.int .i64 0, .string ⟨#[]⟩, .int .i64 0]) ?_ rfl ⟨F.out, below_alloc _ _⟩
        simp [results, Try.results10, go_sem]
      have F := hidG (numR_int hi hik HR.out hl (partL_end hlt))
      try clear hdot
      by_cases h1 : i + 1 < k
      · have y1 : decide ((i : Int) + 1 < (k : Int)) = true := by rw [decide_eq_true_iff]; omega
        have y2 : ((s[i].toNat : Int) == 48) = false := by rw [beq_eq_false_iff_ne]; omega
        clear hl h1
        go_wp2_with (go_at_call 22; refine (l3Digit_ex _ _).mono ?_; rintro e w' ⟨rfl, rfl⟩)
        refine bodyPost_ret (v := .agg #[.int .i64 3, .string (s.extract i k), .int .i64 k]) ?_ rfl ⟨F.out, below_alloc _ _⟩
        simp [results, Try.results10, go_sem]
      · have y1 : decide ((i : Int) + 1 < (k : Int)) = false := by rw [decide_eq_false_iff_not]; omega
        clear hl h1
        go_wp2_with (go_at_call 22; refine (l3Digit_ex _ _).mono ?_; rintro e w' ⟨rfl, rfl⟩)
        refine bodyPost_ret (v := .agg #[.int .i64 3, .string (s.extract i k), .int .i64 k]) ?_ rfl ⟨F.out, below_alloc _ _⟩
        simp [results, Try.results10, go_sem]
end Go.Proofs.Ytdngpnlbhadbpaa
