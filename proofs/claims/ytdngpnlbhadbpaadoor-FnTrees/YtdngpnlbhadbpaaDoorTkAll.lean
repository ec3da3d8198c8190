import Derived.Test.YtdngpnlbhadbpaaDoorTkC
import Derived.Test.YtdngpnlbhadbpaaDoorTkI
import Derived.Test.YtdngpnlbhadbpaaDoorTkM
import Derived.Test.YtdngpnlbhadbpaaDoorTkS
namespace Go.Proofs.YtdngpnlbhadbpaaDoor
open Go.ChangeShapes Go.WideShapes Go.ChangeAt Go.RowKit
def numR (s : ByteArray) (i : Nat) : Ending :=
  if (tokN (s.data.toList.drop i)).1 = 0 then resK 0 ⟨#[]⟩ 0 else resK (tokN (s.data.toList.drop i)).1 (s.extract i (i + (tokN (s.data.toList.drop i)).2)) (i + (tokN (s.data.toList.drop i)).2)
theorem numR_of {s : ByteArray} {i n : Nat} {c : Int} (h : tokN (s.data.toList.drop i) = (c, n)) (hc : c ≠ 0) {k : Nat} (e : k = i + n) : Ending.returned (.agg #[.int .i64 c, .string (s.extract i k), .int .i64 (k : Nat)]) = numR s i := by
  subst e; unfold numR; rw [h]; rw [if_neg hc]; rfl
theorem partL_at {s : ByteArray} {i k : Nat} (hik : i ≤ k) : partL (s.data.toList.drop i) (k - i) = partL s.data.toList k := by
  unfold partL; rw [List.drop_drop, show i + (k - i) = k by omega]
theorem head_at_i {s : ByteArray} {i : Nat} (hi : i < s.size) : (s.data.toList.drop i).head? = some s[i] := by rw [drop_cons hi]; rfl
theorem numR_lead {s : ByteArray} {i k : Nat} (hi : i < s.size) (hr : runL dg (s.data.toList.drop i) = k - i) (h1 : i + 1 < k) (h2 : s[i].toNat = 48) : Ending.returned (.agg #[.int .i64 0, .string ⟨#[]⟩, .int .i64 0]) = numR s i := by
  have h : tokN (s.data.toList.drop i) = (0, 0) := by
    unfold tokN; rw [if_pos ⟨by omega, by rw [head_at_i hi, u8_is (d := 48) h2]⟩]
  unfold numR; rw [h]; rfl
theorem notLead {s : ByteArray} {i k : Nat} (hi : i < s.size) (hr : runL dg (s.data.toList.drop i) = k - i) (h1 : ¬ (i + 1 < k ∧ s[i].toNat = 48)) : ¬ (1 < runL dg (s.data.toList.drop i) ∧ (s.data.toList.drop i).head? = some 48) := by
  rintro ⟨a, b⟩
  rw [head_at_i hi] at b
  have b' : s[i] = 48 := Option.some.inj b
  exact h1 ⟨by omega, by rw [b']; rfl⟩
theorem numR_int {s : ByteArray} {i k : Nat} (hi : i < s.size) (hik : i ≤ k) (hr : runL dg (s.data.toList.drop i) = k - i) (h1 : ¬ (i + 1 < k ∧ s[i].toNat = 48)) (hp : partL s.data.toList k = 0) : Ending.returned (.agg #[.int .i64 3, .string (s.extract i k), .int .i64 (k : Nat)]) = numR s i := by
  refine numR_of (n := k - i) ?_ (by decide) (by omega)
  unfold tokN; rw [if_neg (notLead hi hr h1), hr, partL_at hik, hp, if_neg (Nat.lt_irrefl _)]
theorem numR_dec {s : ByteArray} {i k j : Nat} (hi : i < s.size) (hik : i ≤ k) (hr : runL dg (s.data.toList.drop i) = k - i) (h1 : ¬ (i + 1 < k ∧ s[i].toNat = 48)) (hk : k < s.size) (hd : s[k].toNat = 46) (hp : runL dg (s.data.toList.drop (k + 1)) = j - (k + 1)) (hj : k + 1 < j) : Ending.returned (.agg #[.int .i64 4, .string (s.extract i j), .int .i64 (j : Nat)]) = numR s i := by
  refine numR_of (n := j - i) ?_ (by decide) (by omega)
  unfold tokN; rw [if_neg (notLead hi hr h1), hr, partL_at hik, partL_dot hk hd, hp, if_pos (by omega)]
  congr 1; omega
set_option maxRecDepth 100000 in
set_option maxHeartbeats 40000000 in
theorem l3Token_dig (s : ByteArray) (i : Nat) (w : World) (hs : s.size ≤ 20000) (hi : i < s.size) (hd : dg s[i] = true) :
    Calls Tryd.prog 56 #[.string s, .int .i64 (i : Nat)] w fun e w' => e = numR s i ∧ Below w.heap.size w w' := by
  have hb := (dg_iff _).1 hd
  have z1 : ((s[i].toNat : Int) == 34) = false := by rw [beq_eq_false_iff_ne]; omega
  have z2 : ((s[i].toNat : Int) == 124) = false := by rw [beq_eq_false_iff_ne]; omega
  have z3 : ((s[i].toNat : Int) == 58) = false := by rw [beq_eq_false_iff_ne]; omega
  have z4 : ((s[i].toNat : Int) == 35) = false := by rw [beq_eq_false_iff_ne]; omega
  clear hb
  go_enter Tryd.func56, Tryd.ntmps56
  go_wp2_with (go_at_call 55; refine (l3Digit_ex _ _).mono ?_; rintro e w' ⟨rfl, rfl⟩)
  clear z1 z2 z3 z4
  go_loop [10] (fun v => ∃ k : Nat, i ≤ k ∧ k ≤ s.size ∧ v = .int .i64 k ∧ ((s.data.toList.drop i).take (k - i)).all dg = true) (fun i => s.size - (intOf i).toNat)
  case atStart => exact ⟨i, Nat.le_refl _, by omega, rfl, by simp⟩
  case round =>
    obtain ⟨k, hik, hk, rfl, hp⟩ := hrel
    have HP : Hid (((s.data.toList.drop i).take (k - i)).all dg = true) := hp
    clear hp
    by_cases hlt : k < s.size
    · by_cases hc : dg s[k] = true
      · go_wp2_with (go_at_call 55; refine (l3Digit_ex _ _).mono ?_; rintro e w' ⟨rfl, rfl⟩)
        go_round
        case rel => exact ⟨k + 1, by omega, by omega, by go_num, all_drop_snoc hik hlt HP.out hc⟩
        case measure => simp [intOf]; omega
      · have hc' : dg s[k] = false := by simpa using hc
        have HR : Hid (runL dg (s.data.toList.drop i) = k - i) := runL_drop_stop hik hk HP.out (fun _ => hc')
        clear hc
        by_cases hl : i + 1 < k ∧ s[i].toNat = 48
        · have F := hidG (numR_lead hi HR.out hl.1 hl.2)
          have y1 : decide ((i : Int) + 1 < (k : Int)) = true := by rw [decide_eq_true_iff]; omega
          have y2 : ((s[i].toNat : Int) == 48) = true := by rw [beq_iff_eq]; omega
          clear hl
          go_wp2_with (go_at_call 55; refine (l3Digit_ex _ _).mono ?_; rintro e w' ⟨rfl, rfl⟩)
          refine bodyPost_ret (v := .agg #[.int .i64 0, .string ⟨#[]⟩, .int .i64 0]) ?_ rfl ⟨F.out, below_alloc _ _⟩
          simp [results, Tryd.results56, go_sem]
        by_cases hdot : s[k].toNat = 46
        · have y3 : ((s[k].toNat : Int) == 46) = true := by rw [beq_iff_eq]; omega
          by_cases hn : k + 1 < s.size
          · have y4 : decide ((k : Int) + 1 < (s.size : Int)) = true := by rw [decide_eq_true_iff]; omega
            by_cases hd1 : dg s[k + 1] = true
            · have HD : Hid (∀ j, j ≤ s.size → k + 1 < j → runL dg (s.data.toList.drop (k + 1)) = j - (k + 1) → Ending.returned (.agg #[.int .i64 4, .string (s.extract i j), .int .i64 (j : Nat)]) = numR s i) := fun j hj hkj h => numR_dec hi hik HR.out hl hlt hdot h hkj
              clear hdot
              by_cases h1 : i + 1 < k
              · have y1 : decide ((i : Int) + 1 < (k : Int)) = true := by rw [decide_eq_true_iff]; omega
                have y2 : ((s[i].toNat : Int) == 48) = false := by rw [beq_eq_false_iff_ne]; omega
                clear hl h1
                go_wp2_with (go_at_call 55; refine (l3Digit_ex _ _).mono ?_; rintro e w' ⟨rfl, rfl⟩)
                go_loop [10] (fun i => ∃ j : Nat, k + 1 ≤ j ∧ j ≤ s.size ∧ i = .int .i64 j ∧ ((s.data.toList.drop (k + 1)).take (j - (k + 1))).all dg = true) (fun i => s.size - (intOf i).toNat)
                case atStart => exact ⟨k + 1, Nat.le_refl _, by omega, by go_num, by simp⟩
                case round =>
                  obtain ⟨j, hkj, hj, rfl, hp⟩ := hrel
                  have HP : Hid (((s.data.toList.drop (k + 1)).take (j - (k + 1))).all dg = true) := hp
                  clear hp
                  by_cases hjl : j < s.size
                  · by_cases hc : dg s[j] = true
                    · go_wp2_with (go_at_call 55; refine (l3Digit_ex _ _).mono ?_; rintro e w' ⟨rfl, rfl⟩)
                      go_round
                      case rel => exact ⟨j + 1, by omega, by omega, by go_num, all_drop_snoc hkj hjl HP.out hc⟩
                      case measure => simp [intOf]; omega
                    · have hc' : dg s[j] = false := by simpa using hc
                      have hne : j ≠ k + 1 := fun e => by subst e; rw [hd1] at hc'; cases hc'
                      have F := hidG (HD.out j hj (by omega) (runL_drop_stop hkj hj HP.out (fun _ => hc')))
                      clear hc
                      go_wp2_with (go_at_call 55; refine (l3Digit_ex _ _).mono ?_; rintro e w' ⟨rfl, rfl⟩)
                      refine bodyPost_ret (v := .agg #[.int .i64 4, .string (s.extract i j), .int .i64 j]) ?_ rfl ⟨F.out, below_alloc _ _⟩
                      simp [results, Tryd.results56, go_sem]
                  · have F := hidG (HD.out j hj (by omega) (runL_drop_stop hkj hj HP.out (fun h => absurd h hjl)))
                    go_wp2_with (go_at_call 55; refine (l3Digit_ex _ _).mono ?_; rintro e w' ⟨rfl, rfl⟩)
                    refine bodyPost_ret (v := .agg #[.int .i64 4, .string (s.extract i j), .int .i64 j]) ?_ rfl ⟨F.out, below_alloc _ _⟩
                    simp [results, Tryd.results56, go_sem]
              · have y1 : decide ((i : Int) + 1 < (k : Int)) = false := by rw [decide_eq_false_iff_not]; omega
                clear hl h1
                go_wp2_with (go_at_call 55; refine (l3Digit_ex _ _).mono ?_; rintro e w' ⟨rfl, rfl⟩)
                go_loop [10] (fun i => ∃ j : Nat, k + 1 ≤ j ∧ j ≤ s.size ∧ i = .int .i64 j ∧ ((s.data.toList.drop (k + 1)).take (j - (k + 1))).all dg = true) (fun i => s.size - (intOf i).toNat)
                case atStart => exact ⟨k + 1, Nat.le_refl _, by omega, by go_num, by simp⟩
                case round =>
                  obtain ⟨j, hkj, hj, rfl, hp⟩ := hrel
                  have HP : Hid (((s.data.toList.drop (k + 1)).take (j - (k + 1))).all dg = true) := hp
                  clear hp
                  by_cases hjl : j < s.size
                  · by_cases hc : dg s[j] = true
                    · go_wp2_with (go_at_call 55; refine (l3Digit_ex _ _).mono ?_; rintro e w' ⟨rfl, rfl⟩)
                      go_round
                      case rel => exact ⟨j + 1, by omega, by omega, by go_num, all_drop_snoc hkj hjl HP.out hc⟩
                      case measure => simp [intOf]; omega
                    · have hc' : dg s[j] = false := by simpa using hc
                      have hne : j ≠ k + 1 := fun e => by subst e; rw [hd1] at hc'; cases hc'
                      have F := hidG (HD.out j hj (by omega) (runL_drop_stop hkj hj HP.out (fun _ => hc')))
                      clear hc
                      go_wp2_with (go_at_call 55; refine (l3Digit_ex _ _).mono ?_; rintro e w' ⟨rfl, rfl⟩)
                      refine bodyPost_ret (v := .agg #[.int .i64 4, .string (s.extract i j), .int .i64 j]) ?_ rfl ⟨F.out, below_alloc _ _⟩
                      simp [results, Tryd.results56, go_sem]
                  · have F := hidG (HD.out j hj (by omega) (runL_drop_stop hkj hj HP.out (fun h => absurd h hjl)))
                    go_wp2_with (go_at_call 55; refine (l3Digit_ex _ _).mono ?_; rintro e w' ⟨rfl, rfl⟩)
                    refine bodyPost_ret (v := .agg #[.int .i64 4, .string (s.extract i j), .int .i64 j]) ?_ rfl ⟨F.out, below_alloc _ _⟩
                    simp [results, Tryd.results56, go_sem]
            · have hd1' : dg s[k + 1] = false := by simpa using hd1
              clear hd1
              have F := hidG (numR_int hi hik HR.out hl ((partL_dot hlt hdot).trans (runL_drop_zero (fun _ => hd1'))))
              try clear hdot
              by_cases h1 : i + 1 < k
              · have y1 : decide ((i : Int) + 1 < (k : Int)) = true := by rw [decide_eq_true_iff]; omega
                have y2 : ((s[i].toNat : Int) == 48) = false := by rw [beq_eq_false_iff_ne]; omega
                clear hl h1
                go_wp2_with (go_at_call 55; refine (l3Digit_ex _ _).mono ?_; rintro e w' ⟨rfl, rfl⟩)
                refine bodyPost_ret (v := .agg #[.int .i64 3, .string (s.extract i k), .int .i64 k]) ?_ rfl ⟨F.out, below_alloc _ _⟩
                simp [results, Tryd.results56, go_sem]
              · have y1 : decide ((i : Int) + 1 < (k : Int)) = false := by rw [decide_eq_false_iff_not]; omega
                clear hl h1
                go_wp2_with (go_at_call 55; refine (l3Digit_ex _ _).mono ?_; rintro e w' ⟨rfl, rfl⟩)
                refine bodyPost_ret (v := .agg #[.int .i64 3, .string (s.extract i k), .int .i64 k]) ?_ rfl ⟨F.out, below_alloc _ _⟩
                simp [results, Tryd.results56, go_sem]
          · have y4 : decide ((k : Int) + 1 < (s.size : Int)) = false := by rw [decide_eq_false_iff_not]; omega
            have F := hidG (numR_int hi hik HR.out hl ((partL_dot hlt hdot).trans (runL_drop_zero (fun h => absurd h hn))))
            try clear hdot
            by_cases h1 : i + 1 < k
            · have y1 : decide ((i : Int) + 1 < (k : Int)) = true := by rw [decide_eq_true_iff]; omega
              have y2 : ((s[i].toNat : Int) == 48) = false := by rw [beq_eq_false_iff_ne]; omega
              clear hl h1
              go_wp2_with (go_at_call 55; refine (l3Digit_ex _ _).mono ?_; rintro e w' ⟨rfl, rfl⟩)
              refine bodyPost_ret (v := .agg #[.int .i64 3, .string (s.extract i k), .int .i64 k]) ?_ rfl ⟨F.out, below_alloc _ _⟩
              simp [results, Tryd.results56, go_sem]
            · have y1 : decide ((i : Int) + 1 < (k : Int)) = false := by rw [decide_eq_false_iff_not]; omega
              clear hl h1
              go_wp2_with (go_at_call 55; refine (l3Digit_ex _ _).mono ?_; rintro e w' ⟨rfl, rfl⟩)
              refine bodyPost_ret (v := .agg #[.int .i64 3, .string (s.extract i k), .int .i64 k]) ?_ rfl ⟨F.out, below_alloc _ _⟩
              simp [results, Tryd.results56, go_sem]
        · have y3 : ((s[k].toNat : Int) == 46) = false := by rw [beq_eq_false_iff_ne]; omega
          by_cases hn : k + 1 < s.size
          · have y4 : decide ((k : Int) + 1 < (s.size : Int)) = true := by rw [decide_eq_true_iff]; omega
            have F := hidG (numR_int hi hik HR.out hl (partL_other hlt hdot))
            try clear hdot
            by_cases h1 : i + 1 < k
            · have y1 : decide ((i : Int) + 1 < (k : Int)) = true := by rw [decide_eq_true_iff]; omega
              have y2 : ((s[i].toNat : Int) == 48) = false := by rw [beq_eq_false_iff_ne]; omega
              clear hl h1
              go_wp2_with (go_at_call 55; refine (l3Digit_ex _ _).mono ?_; rintro e w' ⟨rfl, rfl⟩)
              refine bodyPost_ret (v := .agg #[.int .i64 3, .string (s.extract i k), .int .i64 k]) ?_ rfl ⟨F.out, below_alloc _ _⟩
              simp [results, Tryd.results56, go_sem]
            · have y1 : decide ((i : Int) + 1 < (k : Int)) = false := by rw [decide_eq_false_iff_not]; omega
              clear hl h1
              go_wp2_with (go_at_call 55; refine (l3Digit_ex _ _).mono ?_; rintro e w' ⟨rfl, rfl⟩)
              refine bodyPost_ret (v := .agg #[.int .i64 3, .string (s.extract i k), .int .i64 k]) ?_ rfl ⟨F.out, below_alloc _ _⟩
              simp [results, Tryd.results56, go_sem]
          · have y4 : decide ((k : Int) + 1 < (s.size : Int)) = false := by rw [decide_eq_false_iff_not]; omega
            have F := hidG (numR_int hi hik HR.out hl (partL_other hlt hdot))
            try clear hdot
            by_cases h1 : i + 1 < k
            · have y1 : decide ((i : Int) + 1 < (k : Int)) = true := by rw [decide_eq_true_iff]; omega
              have y2 : ((s[i].toNat : Int) == 48) = false := by rw [beq_eq_false_iff_ne]; omega
              clear hl h1
              go_wp2_with (go_at_call 55; refine (l3Digit_ex _ _).mono ?_; rintro e w' ⟨rfl, rfl⟩)
              refine bodyPost_ret (v := .agg #[.int .i64 3, .string (s.extract i k), .int .i64 k]) ?_ rfl ⟨F.out, below_alloc _ _⟩
              simp [results, Tryd.results56, go_sem]
            · have y1 : decide ((i : Int) + 1 < (k : Int)) = false := by rw [decide_eq_false_iff_not]; omega
              clear hl h1
              go_wp2_with (go_at_call 55; refine (l3Digit_ex _ _).mono ?_; rintro e w' ⟨rfl, rfl⟩)
              refine bodyPost_ret (v := .agg #[.int .i64 3, .string (s.extract i k), .int .i64 k]) ?_ rfl ⟨F.out, below_alloc _ _⟩
              simp [results, Tryd.results56, go_sem]
    · have HR : Hid (runL dg (s.data.toList.drop i) = k - i) := runL_drop_stop hik hk HP.out (fun h => absurd h hlt)
      have y4 : decide ((k : Int) + 1 < (s.size : Int)) = false := by rw [decide_eq_false_iff_not]; omega
      by_cases hl : i + 1 < k ∧ s[i].toNat = 48
      · have F := hidG (numR_lead hi HR.out hl.1 hl.2)
        have y1 : decide ((i : Int) + 1 < (k : Int)) = true := by rw [decide_eq_true_iff]; omega
        have y2 : ((s[i].toNat : Int) == 48) = true := by rw [beq_iff_eq]; omega
        clear hl
        go_wp2_with (go_at_call 55; refine (l3Digit_ex _ _).mono ?_; rintro e w' ⟨rfl, rfl⟩)
        refine bodyPost_ret (v := .agg #[.int .i64 0, .string ⟨#[]⟩, .int .i64 0]) ?_ rfl ⟨F.out, below_alloc _ _⟩
        simp [results, Tryd.results56, go_sem]
      have F := hidG (numR_int hi hik HR.out hl (partL_end hlt))
      try clear hdot
      by_cases h1 : i + 1 < k
      · have y1 : decide ((i : Int) + 1 < (k : Int)) = true := by rw [decide_eq_true_iff]; omega
        have y2 : ((s[i].toNat : Int) == 48) = false := by rw [beq_eq_false_iff_ne]; omega
        clear hl h1
        go_wp2_with (go_at_call 55; refine (l3Digit_ex _ _).mono ?_; rintro e w' ⟨rfl, rfl⟩)
        refine bodyPost_ret (v := .agg #[.int .i64 3, .string (s.extract i k), .int .i64 k]) ?_ rfl ⟨F.out, below_alloc _ _⟩
        simp [results, Tryd.results56, go_sem]
      · have y1 : decide ((i : Int) + 1 < (k : Int)) = false := by rw [decide_eq_false_iff_not]; omega
        clear hl h1
        go_wp2_with (go_at_call 55; refine (l3Digit_ex _ _).mono ?_; rintro e w' ⟨rfl, rfl⟩)
        refine bodyPost_ret (v := .agg #[.int .i64 3, .string (s.extract i k), .int .i64 k]) ?_ rfl ⟨F.out, below_alloc _ _⟩
        simp [results, Tryd.results56, go_sem]
end Go.Proofs.YtdngpnlbhadbpaaDoor
namespace Go.Proofs.YtdngpnlbhadbpaaDoor
open Go.ChangeShapes Go.WideShapes Go.ChangeAt Go.RowKit
theorem hexBitI_eq : ∀ v : Nat, v < 16 → ∀ q : Nat, q < 4 → wrap64 (48 + bits .and .i64 ((v : Int) / 2 ^ (3 - (q : Int)).toNat) 1) % 256 = ((hexBit v (3 - q)).toNat : Int) := by decide +kernel
set_option maxRecDepth 100000 in
set_option maxHeartbeats 8000000 in
theorem l3Bits_x (s : ByteArray) (i r : Nat) (w : World) (hs : s.size ≤ 20000) (hi : i + 2 < s.size) (hd : s[i + 1].toNat = 120) (hr : runL hexB (s.data.toList.drop (i + 2)) = r) :
    Calls Tryd.prog 70 #[.string s, .int .i64 (i : Nat)] w fun e w' => e = bitR (hexL ((s.data.toList.drop (i + 2)).take r)) (i + 2 + r) ∧ Below w.heap.size w w' := by
  have HR : Hid (∀ j, i + 2 ≤ j → j ≤ s.size → runL hexB (s.data.toList.drop (i + 2)) = j - (i + 2) → bitR (hexL ((s.data.toList.drop (i + 2)).take (j - (i + 2)))) j = bitR (hexL ((s.data.toList.drop (i + 2)).take r)) (i + 2 + r)) := fun j h1 h2 h3 => by
    rw [show j - (i + 2) = r by omega, show j = i + 2 + r by omega]
  obtain ⟨R, hR⟩ : ∃ R, bitR (hexL ((s.data.toList.drop (i + 2)).take r)) (i + 2 + r) = R := ⟨_, rfl⟩
  rw [hR] at HR ⊢
  clear hR hr
  obtain ⟨i0, hinf, hz0, hz1, hz2⟩ := info_parts Tryd.info_u8
  have z1 : ((s[i + 1].toNat : Int) == 98) = false := by rw [beq_eq_false_iff_ne]; omega
  have z2 : ((s[i + 1].toNat : Int) == 120) = true := by rw [beq_iff_eq]; omega
  clear hd
  go_enter Tryd.func70, Tryd.ntmps70
  go_wp2_with fail
  clear z1 z2
  have hbx := bx_new w [.int .i64 0, .string ⟨#[]⟩, .int .i64 0] 83
  obtain ⟨W0, hW0⟩ : ∃ W0, w.alloc (.cells #[.int .i64 0, .string ⟨#[]⟩, .int .i64 0] 83) = W0 := ⟨_, rfl⟩
  have HBW : Hid (Below w.heap.size w W0) := by unfold Hid; rw [← hW0]; exact below_alloc _ _
  have HS0 : Hid (W0.heap.size = w.heap.size + 1) := by unfold Hid; rw [← hW0]; simp
  rw [hW0] at hbx ⊢
  have HBX : Hid (∀ W, Below (w.heap.size + 1) W0 W → Bx W w.heap.size [.int .i64 0, .string ⟨#[]⟩, .int .i64 0]) := fun W hb => hbx.below (by omega) hb
  clear hW0 hbx
  go_loopw [5, 6] (fun kv v wr => ∃ (k : Nat) (dd acc : List UInt8), i + 2 ≤ k ∧ k ≤ s.size ∧ acc.length + 4 * (i + 2) = 4 * k ∧ kv = .int .i64 (k : Nat) ∧ dd = (s.data.toList.drop (i + 2)).take (k - (i + 2)) ∧ dd.all hexB = true ∧ acc = hexL dd ∧ wr.ownsRow (w.heap.size + 1) 5 1 v acc.length (Lib.byteCells acc) ∧ Below (w.heap.size + 1) W0 wr) (fun kv _ _ => s.size - (intOf kv).toNat)
  case atStart => exact ⟨i + 2, [], [], by omega, by omega, by simp, by go_num, by simp, rfl, rfl, ⟨rfl, .inl ⟨rfl, rfl⟩⟩, Below.refl _ _⟩
  case round =>
    obtain ⟨k, dd, acc, hik, hk, hal, rfl, hdd, hall, hacc, hown, hB⟩ := hrel
    have HD := hidG hdd
    have HA := hidG hacc
    have HL := hidG hall
    have hal' : acc.length + 4 * (i + 2) ≤ 4 * k := by omega
    have HAL := hidG hal
    clear hdd hacc hall hal
    have HB := hidG hB
    have kk := HBX.out _ hB
    have HX := hidG kk
    obtain ⟨c0, c1, c2⟩ := kk.c3
    have f0 := kk.frozen 0
    have f1 := kk.frozen 1
    have f2 := kk.frozen 2
    clear kk hB
    by_cases hgo : ∃ h : k < s.size, hexB s[k] = true
    · obtain ⟨hlt, hc⟩ := hgo
      have HC := hidG hc
      have hlt16 := hexN_lt hc
      have HN : Hid (dd ++ [s[k]] = (s.data.toList.drop (i + 2)).take (k + 1 - (i + 2)) ∧ (dd ++ [s[k]]).all hexB = true ∧ acc ++ hex4 (hexN s[k]) = hexL (dd ++ [s[k]])) := ⟨by rw [take_snoc_at hik hlt, ← HD.out], by rw [List.all_append, HL.out]; simp [HC.out], by rw [hexL_snoc, ← HA.out]⟩
      obtain ⟨v, hv⟩ : ∃ v, hexN s[k] = v := ⟨_, rfl⟩
      rw [hv] at HN hlt16
      have HV := hidG hlt16
      obtain ⟨V, hV⟩ : ∃ V : Int, (v : Int) = V := ⟨_, rfl⟩
      have HVV : Hid (((hexN s[k] : Nat) : Int) = V) := by unfold Hid; rw [hv]; exact hV
      have HVI := hidG hV
      have hv0 : 0 ≤ V := by omega
      have hv15 : V ≤ 15 := by omega
      have HOA := hidG hown
      clear hc hv hV hlt16 hown c0 c1 c2 f0 f1 f2
      go_wp2_with (go_at_call 75; refine (l3Hex_yes s[k] _ HC.out).mono ?_; rintro e w' ⟨rfl, rfl⟩; rw [HVV.out])
      go_loopw [6, 8] (fun ov jv wq => ∃ (q : Nat) (p : Int) (acc2 : List UInt8), q ≤ 4 ∧ acc2.length = acc.length + q ∧ -1 ≤ p ∧ p ≤ 3 ∧ p = 3 - (q : Int) ∧ jv = .int .i64 p ∧ acc2 = acc ++ (hex4 v).take q ∧ wq.ownsRow (w.heap.size + 1) 5 1 ov acc2.length (Lib.byteCells acc2) ∧ Below (w.heap.size + 1) W0 wq) (fun _ jv _ => (intOf jv + 1).toNat)
      case atStart => exact ⟨0, 3, acc, by omega, by omega, by omega, by omega, rfl, rfl, by simp, HOA.out, HB.out⟩
      case round =>
        obtain ⟨q, p, acc2, hq, hal2, hp1, hp3, hpq, rfl, hacc2, hown2, hB2⟩ := hrel
        have HP := hidG hpq
        have HA2 := hidG hacc2
        have HB := hidG hB2
        have HAL2 := hidG hal2
        have hal3 : acc2.length ≤ 80004 := by omega
        clear hacc2 hB2 hal2
        by_cases hp0 : 0 ≤ p
        · have HS : Hid (acc2 ++ [hexBit v (3 - q)] = acc ++ (hex4 v).take (q + 1)) := by
            unfold Hid; rw [hex4_take q (by omega), HA2.out, List.append_assoc]
          have HQ : Hid (q + 1 ≤ 4 ∧ acc2.length + 1 = acc.length + (q + 1) ∧ p - 1 = 3 - ((q + 1 : Nat) : Int)) := ⟨by omega, by have := HAL2.out; omega, by omega⟩
          obtain ⟨x, hx⟩ : ∃ x, wrap64 (48 + bits .and .i64 (V / 2 ^ p.toNat) 1) % 256 = x := ⟨_, rfl⟩
          have HXX : Hid (x = ((hexBit v (3 - q)).toNat : Int)) := by
            unfold Hid; rw [← hx, HP.out, ← HVI.out]; exact hexBitI_eq v HV.out q (by omega)
          clear hpq
          go_wp2_with (at_builtin; refine wpList_append_own_at _ rfl _ _ 22 rfl (w.heap.size + 1) 5 i0 (.int .u8 0) 1 1 Tryd.underlying22 hinf hz0 hz1 hz2 rfl (by decide) u6 acc2.length _ rfl (hown2.alloc _) ⟨wr.heap.size, 0, none⟩ 1 1 [.int .u8 x] rfl rfl ?c1 ?c2 ?c3 ?c4 ?c5 ?_)
          case c1 =>
            intro i u hi
            match i, hi with
            | 0, hi => simp at hi; subst hi; simp [Addr.add]
          case c2 => intro u hu; simp at hu; subst hu; rfl
          case c3 => unfold maxLen; omega
          case c4 => omega
          case c5 => have := HB.out.size; have := HS0.out; simp; omega
          intro v2 w2 hown3 hgr2 _ _
          have hB3 : Below (w.heap.size + 1) W0 w2 := ((HB.out.alloc (by have := HB.out.size; have := HS0.out; omega) _).grown hgr2 (by have := HB.out.size; have := HS0.out; simp; omega) (fun k e => (hown2.lt k e).1))
          have HB3 := hidG hB3
          have HO : Hid (w2.ownsRow (w.heap.size + 1) 5 1 v2 (acc2 ++ [hexBit v (3 - q)]).length (Lib.byteCells (acc2 ++ [hexBit v (3 - q)]))) := by
            unfold Hid
            have e : Lib.byteCells (acc2 ++ [hexBit v (3 - q)]) = Lib.byteCells acc2 ++ [.int .u8 x] := by rw [HXX.out]; simp [Lib.byteCells]
            rw [e, List.length_append]; exact hown3
          clear hown2 hown3 hgr2 hB3
          go_wp2
          go_roundw
          case rel => exact ⟨q + 1, p - 1, acc2 ++ [hexBit v (3 - q)], HQ.out.1, by have := HQ.out.2.1; simp; omega, by omega, by omega, HQ.out.2.2, by go_num, HS.out, HO.out, HB3.out⟩
          case measure => simp [intOf]; omega
        · have hpe : q = 4 := by omega
          subst hpe
          have hpe : p = -1 := by omega
          subst hpe
          have HN2 : Hid (acc2 = hexL (dd ++ [s[k]])) := by unfold Hid; rw [← HN.out.2.2, HA2.out]; rfl
          have HO := hidG hown2
          clear hpq HP hown2
          go_wp2_with fail
          go_roundw
          case rel => exact ⟨k + 1, dd ++ [s[k]], acc2, by omega, by omega, by have := HAL.out; have := HAL2.out; omega, by go_num, HN.out.1, HN.out.2.1, HN2.out, HO.out, HB.out⟩
          case measure => simp [intOf]; omega
    · have hno : ∀ h : k < s.size, hexB s[k] = false := fun h => by cases hq : hexB s[k] with
        | true => exact absurd ⟨h, hq⟩ hgo
        | false => rfl
      have HRR : Hid (bitR acc k = R) := by
        have := HR.out k hik hk (runL_drop_stop hik hk (by rw [← HD.out]; exact HL.out) hno)
        rw [← HD.out, ← HA.out] at this; exact this
      have HF : Hid ((acc.length = 0 → Ending.returned (.agg #[.int .i64 0, .string ⟨#[]⟩, .int .i64 0]) = R) ∧ (0 < acc.length → Ending.returned (.agg #[.int .i64 5, .string (strOf acc), .int .i64 (k : Nat)]) = R)) := ⟨fun h => (bitR_0 h).trans HRR.out, fun h => (bitR_1 h).trans HRR.out⟩
      clear hgo
      by_cases hlt : k < s.size
      · have HC := hidG (hno hlt)
        clear hno
        rcases Nat.eq_zero_or_pos acc.length with ha | ha
        · have HE := hidG (HF.out.1 ha)
          rcases hown.2 with ⟨rfl, _⟩ | ⟨g, cap, cur, rfl, _⟩
          · clear hown ha

            go_wp2_with (go_at_call 75; refine (l3Hex_no s[k] _ HC.out).mono ?_; rintro e w' ⟨rfl, rfl⟩)
            have hx4 := (((HX.out.set 0 (.int .i64 0)).set 1 (.string ⟨#[]⟩)).set 2 (.int .i64 0))
            obtain ⟨e0, e1, e2⟩ := hx4.c3
            refine bodyPost_ret (v := .agg #[.int .i64 0, .string ⟨#[]⟩, .int .i64 0]) ?_ rfl ⟨HE.out, ?_⟩
            · clear c0 c1 c2 f0 f1 f2
              simp [results, Tryd.results70, go_sem, e0, e1, e2]
            · exact ((((HBW.out.trans (HB.out.mono (by omega))).setCell (p := ⟨w.heap.size, 0, none⟩) (Nat.le_refl _) _).setCell (p := ⟨w.heap.size, 1, none⟩) (Nat.le_refl _) _).setCell (p := ⟨w.heap.size, 2, none⟩) (Nat.le_refl _) _)
          · rw [ha]
            clear hown ha

            go_wp2_with (go_at_call 75; refine (l3Hex_no s[k] _ HC.out).mono ?_; rintro e w' ⟨rfl, rfl⟩)
            have hx4 := (((HX.out.set 0 (.int .i64 0)).set 1 (.string ⟨#[]⟩)).set 2 (.int .i64 0))
            obtain ⟨e0, e1, e2⟩ := hx4.c3
            refine bodyPost_ret (v := .agg #[.int .i64 0, .string ⟨#[]⟩, .int .i64 0]) ?_ rfl ⟨HE.out, ?_⟩
            · clear c0 c1 c2 f0 f1 f2
              simp [results, Tryd.results70, go_sem, e0, e1, e2]
            · exact ((((HBW.out.trans (HB.out.mono (by omega))).setCell (p := ⟨w.heap.size, 0, none⟩) (Nat.le_refl _) _).setCell (p := ⟨w.heap.size, 1, none⟩) (Nat.le_refl _) _).setCell (p := ⟨w.heap.size, 2, none⟩) (Nat.le_refl _) _)
        · have HE := hidG (HF.out.2 ha)
          have hcv := conv_any hown
          rcases hown.2 with ⟨rfl, h0⟩ | ⟨g, cap, cur, rfl, _⟩
          · omega
          · have ya : ((acc.length : Int) == 0) = false := by rw [beq_eq_false_iff_ne]; omega
            clear hown ha

            go_wp2_with (go_at_call 75; refine (l3Hex_no s[k] _ HC.out).mono ?_; rintro e w' ⟨rfl, rfl⟩)
            have hx4 := (((HX.out.set 0 (.int .i64 5)).set 1 (.string (strOf acc))).set 2 (.int .i64 ((k : Nat) : Int)))
            obtain ⟨e0, e1, e2⟩ := hx4.c3
            refine bodyPost_ret (v := .agg #[.int .i64 5, .string (strOf acc), .int .i64 ((k : Nat) : Int)]) ?_ rfl ⟨HE.out, ?_⟩
            · clear c0 c1 c2 f0 f1 f2
              simp [results, Tryd.results70, go_sem, e0, e1, e2]
            · exact ((((HBW.out.trans (HB.out.mono (by omega))).setCell (p := ⟨w.heap.size, 0, none⟩) (Nat.le_refl _) _).setCell (p := ⟨w.heap.size, 1, none⟩) (Nat.le_refl _) _).setCell (p := ⟨w.heap.size, 2, none⟩) (Nat.le_refl _) _)
      · clear hno
        rcases Nat.eq_zero_or_pos acc.length with ha | ha
        · have HE := hidG (HF.out.1 ha)
          rcases hown.2 with ⟨rfl, _⟩ | ⟨g, cap, cur, rfl, _⟩
          · clear hown ha

            go_wp2_with fail
            have hx4 := (((HX.out.set 0 (.int .i64 0)).set 1 (.string ⟨#[]⟩)).set 2 (.int .i64 0))
            obtain ⟨e0, e1, e2⟩ := hx4.c3
            refine bodyPost_ret (v := .agg #[.int .i64 0, .string ⟨#[]⟩, .int .i64 0]) ?_ rfl ⟨HE.out, ?_⟩
            · clear c0 c1 c2 f0 f1 f2
              simp [results, Tryd.results70, go_sem, e0, e1, e2]
            · exact ((((HBW.out.trans (HB.out.mono (by omega))).setCell (p := ⟨w.heap.size, 0, none⟩) (Nat.le_refl _) _).setCell (p := ⟨w.heap.size, 1, none⟩) (Nat.le_refl _) _).setCell (p := ⟨w.heap.size, 2, none⟩) (Nat.le_refl _) _)
          · rw [ha]
            clear hown ha

            go_wp2_with fail
            have hx4 := (((HX.out.set 0 (.int .i64 0)).set 1 (.string ⟨#[]⟩)).set 2 (.int .i64 0))
            obtain ⟨e0, e1, e2⟩ := hx4.c3
            refine bodyPost_ret (v := .agg #[.int .i64 0, .string ⟨#[]⟩, .int .i64 0]) ?_ rfl ⟨HE.out, ?_⟩
            · clear c0 c1 c2 f0 f1 f2
              simp [results, Tryd.results70, go_sem, e0, e1, e2]
            · exact ((((HBW.out.trans (HB.out.mono (by omega))).setCell (p := ⟨w.heap.size, 0, none⟩) (Nat.le_refl _) _).setCell (p := ⟨w.heap.size, 1, none⟩) (Nat.le_refl _) _).setCell (p := ⟨w.heap.size, 2, none⟩) (Nat.le_refl _) _)
        · have HE := hidG (HF.out.2 ha)
          have hcv := conv_any hown
          rcases hown.2 with ⟨rfl, h0⟩ | ⟨g, cap, cur, rfl, _⟩
          · omega
          · have ya : ((acc.length : Int) == 0) = false := by rw [beq_eq_false_iff_ne]; omega
            clear hown ha

            go_wp2_with fail
            have hx4 := (((HX.out.set 0 (.int .i64 5)).set 1 (.string (strOf acc))).set 2 (.int .i64 ((k : Nat) : Int)))
            obtain ⟨e0, e1, e2⟩ := hx4.c3
            refine bodyPost_ret (v := .agg #[.int .i64 5, .string (strOf acc), .int .i64 ((k : Nat) : Int)]) ?_ rfl ⟨HE.out, ?_⟩
            · clear c0 c1 c2 f0 f1 f2
              simp [results, Tryd.results70, go_sem, e0, e1, e2]
            · exact ((((HBW.out.trans (HB.out.mono (by omega))).setCell (p := ⟨w.heap.size, 0, none⟩) (Nat.le_refl _) _).setCell (p := ⟨w.heap.size, 1, none⟩) (Nat.le_refl _) _).setCell (p := ⟨w.heap.size, 2, none⟩) (Nat.le_refl _) _)
end Go.Proofs.YtdngpnlbhadbpaaDoor
namespace Go.Proofs.YtdngpnlbhadbpaaDoor
open Go.ChangeShapes Go.WideShapes Go.ChangeAt Go.RowKit
set_option maxRecDepth 100000 in
set_option maxHeartbeats 4000000 in
theorem l3Token_sharp (s t : ByteArray) (i n : Nat) (k : Int) (w : World) (_hs : s.size ≤ 20000) (hi : i < s.size) (hd : s[i].toNat = 35)
    (H : Hid (∀ w, Calls Tryd.prog 70 #[.string s, .int .i64 (i : Nat)] w fun e w' => e = resK k t n ∧ Below w.heap.size w w')) :
    Calls Tryd.prog 56 #[.string s, .int .i64 (i : Nat)] w fun e w' => e = resK k t n ∧ Below w.heap.size w w' := by
  have z1 : ((s[i].toNat : Int) == 34) = false := by rw [beq_eq_false_iff_ne]; omega
  have z2 : ((s[i].toNat : Int) == 124) = false := by rw [beq_eq_false_iff_ne]; omega
  have z3 : ((s[i].toNat : Int) == 58) = false := by rw [beq_eq_false_iff_ne]; omega
  have z4 : ((s[i].toNat : Int) == 35) = true := by rw [beq_iff_eq]; omega
  clear hd
  go_enter Tryd.func56, Tryd.ntmps56
  go_wp2_with (go_at_call 70; refine (H.out _).mono ?_; rintro e w2 ⟨he, hb2⟩; unfold resK at he; subst he; have hx2 := (bx_new w [.int .i64 0, .string ⟨#[]⟩, .int .i64 0] 83).below (N := w.heap.size + 1) (by omega) (hb2.mono (by simp)); have HX := hidG hx2; have HB : Hid (Below w.heap.size w w2) := (below_alloc w _).trans (hb2.mono (by simp)); obtain ⟨c0, c1, c2⟩ := hx2.c3; have f0 := hx2.frozen 0; have f1 := hx2.frozen 1; have f2 := hx2.frozen 2; clear hb2 hx2)
  have hx4 := (((HX.out.set 0 (.int .i64 k)).set 1 (.string t)).set 2 (.int .i64 (n : Nat)))
  obtain ⟨e0, e1, e2⟩ := hx4.c3
  refine bodyPost_ret (v := .agg #[.int .i64 k, .string t, .int .i64 (n : Nat)]) ?_ rfl ⟨rfl, ?_⟩
  · clear c0 c1 c2 f0 f1 f2
    simp [results, Tryd.results56, go_sem, e0, e1, e2]
  · exact (((HB.out.setCell (p := ⟨w.heap.size, 0, none⟩) (Nat.le_refl _) _).setCell (p := ⟨w.heap.size, 1, none⟩) (Nat.le_refl _) _).setCell (p := ⟨w.heap.size, 2, none⟩) (Nat.le_refl _) _)
theorem specR_some {o : Option (Int × List UInt8 × Nat)} {k : Int} {t : List UInt8} {n i m : Nat} (h : o = some (k, t, n)) (e : m = i + n) : resK k (strOf t) m = specR o i := by rw [h, e]; rfl
theorem specR_none {o : Option (Int × List UInt8 × Nat)} {i : Nat} (h : o = none) : resK 0 ⟨#[]⟩ 0 = specR o i := by rw [h]; rfl
theorem bitsL_b {d : UInt8} {v : List UInt8} (h : d.toNat = 98) : bitsL (d :: v) = if runL bitB v = 0 then none else some (5, v.take (runL bitB v), 2 + runL bitB v) := by
  unfold bitsL; simp only; rw [if_pos h]
theorem bitsL_x {d : UInt8} {v : List UInt8} (h : d.toNat = 120) : bitsL (d :: v) = if runL hexB v = 0 then none else some (5, hexL (v.take (runL hexB v)), 2 + runL hexB v) := by
  unfold bitsL; simp only; rw [if_neg (by omega), if_pos h]
theorem bitsL_n {d : UInt8} {v : List UInt8} (h : d.toNat ≠ 98) (h2 : d.toNat ≠ 120) : bitsL (d :: v) = none := by
  unfold bitsL; simp only; rw [if_neg h, if_neg h2]
theorem take_nil_iff {l : List UInt8} {r : Nat} (h : r ≤ l.length) : (l.take r).isEmpty = decide (r = 0) := by
  cases r with
  | zero => rfl
  | succ r => cases l with
    | nil => simp at h
    | cons a b => rfl
theorem hexL_nil_iff (l : List UInt8) : (hexL l).isEmpty = l.isEmpty := by cases l <;> rfl
theorem bitR_specR {u : List UInt8} {i n : Nat} {l : List UInt8} {r : Nat} (hl : l.isEmpty = decide (r = 0)) (h : bitsL u = if r = 0 then none else some (5, l, 2 + r)) (e : n = i + 2 + r) : bitR l n = specR (bitsL u) i := by
  rw [h]
  unfold bitR
  rw [hl]
  by_cases h0 : r = 0
  · rw [if_pos h0, decide_eq_true h0, if_pos rfl]; rfl
  · rw [if_neg h0, decide_eq_false h0, if_neg (by decide)]; subst e
    show resK 5 (strOf l) (i + 2 + r) = resK 5 (strOf l) (i + (2 + r))
    rw [Nat.add_assoc]
theorem specR_form (o : Option (Int × List UInt8 × Nat)) (i : Nat) : ∃ k t n, specR o i = resK k t n := by
  cases o with
  | none => exact ⟨_, _, _, rfl⟩
  | some x => exact ⟨_, _, _, rfl⟩
theorem l3Bits_any (s : ByteArray) (i : Nat) (w : World) (hs : s.size ≤ 20000) (hi : i < s.size) :
    Calls Tryd.prog 70 #[.string s, .int .i64 (i : Nat)] w fun e w' => e = specR (bitsL (s.data.toList.drop (i + 1))) i ∧ Below w.heap.size w w' := by
  by_cases h2 : s.size ≤ i + 2
  · refine (l3Bits_short s i w hs hi h2).mono ?_
    rintro e w' ⟨rfl, hb⟩
    refine ⟨specR_none ?_, hb⟩
    by_cases h1 : i + 1 < s.size
    · rw [drop_at h1, drop_end (by omega)]
      unfold bitsL
      simp only [runL, if_true]
      split
      · rfl
      · split <;> rfl
    · rw [drop_end h1]; rfl
  · have h1 : i + 1 < s.size := by omega
    rw [drop_at h1]
    by_cases hb : s[i + 1].toNat = 98
    · refine (l3Bits_b s i _ w hs (by omega) hb rfl).mono ?_
      rintro e w' ⟨rfl, hbe⟩
      exact ⟨bitR_specR (take_nil_iff (runL_le _ _)) (bitsL_b hb) rfl, hbe⟩
    by_cases hx : s[i + 1].toNat = 120
    · refine (l3Bits_x s i _ w hs (by omega) hx rfl).mono ?_
      rintro e w' ⟨rfl, hbe⟩
      exact ⟨bitR_specR (by rw [hexL_nil_iff]; exact take_nil_iff (runL_le _ _)) (bitsL_x hx) rfl, hbe⟩
    · refine (l3Bits_other s i w hs (by omega) hb hx).mono ?_
      rintro e w' ⟨rfl, hbe⟩
      exact ⟨specR_none (bitsL_n hb hx), hbe⟩
theorem nat_u8 {c : UInt8} {n : Nat} (hn : n < 256) : c.toNat = n ↔ c = UInt8.ofNat n := by
  constructor
  · intro h; apply UInt8.toNat_inj.1; rw [h]; simp; omega
  · rintro rfl; simp; omega
theorem l3Token_any (s : ByteArray) (i : Nat) (w : World) (hs : s.size ≤ 20000) (hi : i < s.size) :
    Calls Tryd.prog 56 #[.string s, .int .i64 (i : Nat)] w fun e w' => e = specR (tokL (s.data.toList.drop i)) i ∧ Below w.heap.size w w' := by
  have hd := drop_at hi
  by_cases h34 : s[i].toNat = 34
  · refine (l3Token_text s i w hs hi h34).mono ?_
    rintro e w' ⟨rfl, hb⟩
    refine ⟨?_, hb⟩
    have : tokL (s.data.toList.drop i) = (scanT (s.data.toList.drop (i + 1))).map (fun x => (6, x.1, x.2 + 1)) := by
      rw [hd]; unfold tokL; simp only; rw [if_pos h34]
    rw [this]
    cases scanT (s.data.toList.drop (i + 1)) with
    | none => rfl
    | some x =>
      show resK 6 (strOf x.1) (i + 1 + x.2) = resK 6 (strOf x.1) (i + (x.2 + 1))
      rw [show i + 1 + x.2 = i + (x.2 + 1) by omega]
  by_cases h124 : s[i].toNat = 124
  · refine (l3Token_bar s i _ w hs hi h124 rfl).mono ?_
    rintro e w' ⟨rfl, hb⟩
    refine ⟨?_, hb⟩
    obtain ⟨r, hr⟩ : ∃ r, runL barB (s.data.toList.drop (i + 1)) = r := ⟨_, rfl⟩
    have ht : tokL (s.data.toList.drop i) = if (s.data.toList.drop (i + 1))[r]? = some 124 then some (2, (s.data.toList.drop (i + 1)).take r, r + 2) else none := by
      rw [hd]; unfold tokL; simp only; rw [if_neg h34, if_pos h124, hr]
    have hx : (s.data.toList.drop (i + 1))[r]? = s.data.toList[i + 1 + r]? := by rw [List.getElem?_drop]
    rw [hr, ht, hx]
    unfold barR
    by_cases hc : ∃ h : i + 1 + r < s.size, s[i + 1 + r].toNat = 124
    · rw [if_pos hc]
      obtain ⟨h1, h2⟩ := hc
      rw [if_pos (by rw [at_list h1, (nat_u8 (by decide)).1 h2]; rfl), ext_drop]
      show resK _ _ _ = resK _ _ (i + (r + 2))
      rw [show i + 1 + r + 1 = i + (r + 2) by omega]
    · rw [if_neg hc, if_neg]
      · rfl
      · intro h
        obtain ⟨h1, h2⟩ := List.getElem?_eq_some_iff.1 h
        have h1' : i + 1 + r < s.size := by rw [Lib.size_eq]; exact h1
        exact hc ⟨h1', by rw [show s[i + 1 + r] = 124 from h2]; rfl⟩
  by_cases h58 : s[i].toNat = 58
  · refine (l3Token_key s i _ w hs hi h58 rfl).mono ?_
    rintro e w' ⟨rfl, hb⟩
    refine ⟨?_, hb⟩
    obtain ⟨r, hr⟩ : ∃ r, runL nameB (s.data.toList.drop (i + 1)) = r := ⟨_, rfl⟩
    have ht : tokL (s.data.toList.drop i) = if r = 0 then none else some (7, (s.data.toList.drop (i + 1)).take r, r + 1) := by
      rw [hd]; unfold tokL; simp only; rw [if_neg h34, if_neg h124, if_pos h58, hr]
    rw [hr, ht]
    unfold keyR
    by_cases h0 : r = 0
    · rw [if_pos h0, if_pos h0]; rfl
    · rw [if_neg h0, if_neg h0, ext_drop]
      show resK _ _ _ = resK _ _ (i + (r + 1))
      rw [show i + 1 + r = i + (r + 1) by omega]
  by_cases h35 : s[i].toNat = 35
  · have ht : tokL (s.data.toList.drop i) = bitsL (s.data.toList.drop (i + 1)) := by
      rw [hd]; unfold tokL; simp only; rw [if_neg h34, if_neg h124, if_neg h58, if_pos h35]
    rw [ht]
    obtain ⟨k, t, n, hf⟩ := specR_form (bitsL (s.data.toList.drop (i + 1))) i
    rw [hf]
    exact l3Token_sharp s t i n k w hs hi h35 (fun w => by rw [← hf]; exact l3Bits_any s i w hs hi)
  by_cases hg : dg s[i] = true
  · refine (l3Token_dig s i w hs hi hg).mono ?_
    rintro e w' ⟨rfl, hb⟩
    refine ⟨?_, hb⟩
    have ht : tokL (s.data.toList.drop i) = if (tokN (s.data.toList.drop i)).1 = 0 then none else some ((tokN (s.data.toList.drop i)).1, (s.data.toList.drop i).take (tokN (s.data.toList.drop i)).2, (tokN (s.data.toList.drop i)).2) := by
      rw [hd]; unfold tokL; simp only; rw [if_neg h34, if_neg h124, if_neg h58, if_neg h35, if_pos hg]
    rw [ht]
    unfold numR
    obtain ⟨⟨c, n⟩, hc⟩ : ∃ x, tokN (s.data.toList.drop i) = x := ⟨_, rfl⟩
    rw [hc]
    simp only
    by_cases h0 : c = 0
    · rw [if_pos h0, if_pos h0]; rfl
    · rw [if_neg h0, if_neg h0, ext_drop]; rfl
  have hg' : dg s[i] = false := by simpa using hg
  by_cases hn : nameB s[i] = true
  · refine (l3Token_name s i _ w hs hi hn hg' rfl).mono ?_
    rintro e w' ⟨rfl, hb⟩
    refine ⟨?_, hb⟩
    have ht : tokL (s.data.toList.drop i) = some (2, (s.data.toList.drop i).take (runL nameB (s.data.toList.drop i)), runL nameB (s.data.toList.drop i)) := by
      rw [hd]; unfold tokL; simp only; rw [if_neg h34, if_neg h124, if_neg h58, if_neg h35, if_neg hg, if_pos hn]
    rw [ht, ext_drop]; rfl
  · have hn' : nameB s[i] = false := by simpa using hn
    refine (l3Token_none s i w hs hi ⟨h34, h124, h58, h35⟩ hn' hg').mono ?_
    rintro e w' ⟨rfl, hb⟩
    refine ⟨specR_none ?_, hb⟩
    rw [hd]; unfold tokL; simp only; rw [if_neg h34, if_neg h124, if_neg h58, if_neg h35, if_neg hg, if_neg hn]
end Go.Proofs.YtdngpnlbhadbpaaDoor
namespace Go.Proofs.YtdngpnlbhadbpaaDoor
open Go.ChangeShapes Go.WideShapes Go.ChangeAt Go.RowKit
theorem take_run_all (p : UInt8 → Bool) : ∀ l : List UInt8, (l.take (runL p l)).all p = true
  | [] => rfl
  | c :: r => by
    unfold runL
    by_cases h : p c = true
    · rw [if_pos h, List.take_succ_cons, List.all_cons, h, take_run_all p r]; rfl
    · rw [if_neg h]; rfl
set_option maxRecDepth 100000 in
set_option maxHeartbeats 4000000 in
theorem scanBits_hex (T U : ByteArray) (r : Nat) (w : World) (hs : T.size ≤ 50000) (hU : T.extract 2 (U.size + 2) = U) (hr : runL hexB U.data.toList = r) (hrl : r ≤ U.size) (hTU : T.size = U.size + 2) (hc : T[1]'(by omega) = 120) :
    Calls Tryd.prog 50 #[.string T] w fun e w' => (∃ k t n, BitsP (strOf (hexL (U.data.toList.take r))) r k t n ∧ e = resN k t n) ∧ Below w.heap.size w w' := by
  have HU := hidG hU
  have HR := hidG hr
  have y0 : (((T[1]'(by omega)).toNat : Int) == 98) = false := by rw [hc]; rfl
  have y1 : (((T[1]'(by omega)).toNat : Int) == 120) = true := by rw [hc]; rfl
  have hsz : (U.extract 0 r).size ≤ 50000 := by rw [ByteArray.size_extract]; omega
  have hvs : (U.extract 0 r).size = r := by rw [ByteArray.size_extract]; omega
  have hvl : (U.extract 0 r).data.toList = U.data.toList.take r := by rw [ext_list]; rfl
  have hva : (U.extract 0 r).data.toList.all hexB = true := by rw [hvl, ← hr]; exact take_run_all _ _
  obtain ⟨V, hV⟩ : ∃ V, U.extract 0 r = V := ⟨_, rfl⟩
  have HV := hidG hV
  rw [hV] at hsz hvs hvl hva
  have HVA := hidG hva
  obtain ⟨X, hX⟩ : ∃ X, strOf (hexL V.data.toList) = X := ⟨_, rfl⟩
  have HXX := hidG hX
  rw [← hvl, hX]
  clear hV hU hr hc hvl hva hX
  go_enter Tryd.func50, Tryd.ntmps50
  go_wp2_with (first | (go_at_call 48; rw [HU.out]; refine (runOf_hex _ _ (by unfold maxLen; omega)).mono ?_; rintro e w' ⟨rfl, rfl⟩; rw [HR.out]) | (go_at_call 68; rw [HV.out]; refine (binaryOf_ex _ _ hsz HVA.out).mono ?_; rintro e w1 ⟨rfl, hb1⟩; rw [HXX.out]; have hx := (bx_new w [.int .i64 0, .string ⟨#[]⟩, .int .i64 0, .int .i64 0] 31).below (N := w.heap.size + 1) (by omega) (hb1.mono (by simp)); have HX1 := hidG hx; have HB1 : Hid (Below w.heap.size w w1) := (below_alloc _ _).trans (hb1.mono (by simp)); have hs1 : w.heap.size + 1 ≤ w1.heap.size := (by have := hb1.size; simpa using this); clear hb1 hx) | (go_at_call 66; refine (bitsNode_x _ r _ (by omega)).mono ?_; rintro e w2 ⟨⟨k2, s2, n2, hk2, he⟩, hb2⟩; unfold resN at he; subst he; have HK2 := hidG hk2; clear hk2; have hx2 := HX1.out.below (N := w.heap.size + 1) (by omega) (hb2.mono hs1); have HX2 := hidG hx2; have HB2 : Hid (Below w.heap.size w w2) := HB1.out.trans (hb2.mono (by omega)); obtain ⟨c0, c1, c2, c3⟩ := hx2.c4; have f0 := hx2.frozen 0; have f1 := hx2.frozen 1; have f2 := hx2.frozen 2; have f3 := hx2.frozen 3; clear hb2 hx2))
  have hx4 := ((((HX2.out.set 0 (.int .i64 k2)).set 1 (.string s2)).set 2 (.int .i64 0)).set 3 (.int .i64 0))
  obtain ⟨e0, e1, e2, e3⟩ := hx4.c4
  refine bodyPost_ret (v := .tuple #[.agg #[.int .i64 k2, .string s2, .int .i64 0, .int .i64 0], .int .i64 (n2 : Nat)]) ?_ rfl ⟨⟨k2, s2, n2, HK2.out, rfl⟩, ?_⟩
  · clear c0 c1 c2 c3 f0 f1 f2 f3
    simp [results, Tryd.results50, go_sem, e0, e1, e2, e3]
  · exact (((HB2.out.setCell (p := ⟨w.heap.size, 0, none⟩) (Nat.le_refl _) _).setCell (p := ⟨w.heap.size, 1, none⟩) (Nat.le_refl _) _).setCell (p := ⟨w.heap.size, 2, none⟩) (Nat.le_refl _) _).setCell (p := ⟨w.heap.size, 3, none⟩) (Nat.le_refl _) _
theorem bitsP_implR {s : List UInt8} {r : Nat} {k : Int} {t : ByteArray} {n : Nat} {u : List UInt8} (h : BitsP (strOf s) r k t n) (hu : bitsL u = if r = 0 then none else some (5, s, 2 + r)) : resN k t n = implR (bitsL u) := by
  rw [hu]
  rcases h with ⟨h0, rfl, rfl, rfl⟩ | ⟨h0, rfl, rfl, rfl⟩
  · rw [if_pos h0]; rfl
  · rw [if_neg (by omega)]; rfl
theorem tail_ex (T : ByteArray) (a : Nat) (h : a ≤ T.size) : ∃ U : ByteArray, T.extract a (U.size + a) = U ∧ T.size = U.size + a ∧ U.data.toList = T.data.toList.drop a := by
  refine ⟨strOf (T.data.toList.drop a), ?_⟩
  have hl : (strOf (T.data.toList.drop a)).data.toList = T.data.toList.drop a := strOf_toList _
  have hsz : (strOf (T.data.toList.drop a)).size = T.size - a := by rw [Lib.size_eq, hl, List.length_drop, ← Lib.size_eq]
  refine ⟨?_, by omega, hl⟩
  apply ba_eq
  rw [ext_list, hl, hsz, List.take_of_length_le (by rw [← Lib.size_eq]; omega)]
theorem scanBits_any (T : ByteArray) (w : World) (hs : T.size ≤ 50000) (h0 : 0 < T.size) :
    Calls Tryd.prog 50 #[.string T] w fun e w' => e = implR (bitsL (T.data.toList.drop 1)) ∧ Below w.heap.size w w' := by
  by_cases h2 : T.size < 2
  · refine (scanBits_short T w h2).mono ?_
    rintro e w' ⟨rfl, hb⟩
    refine ⟨?_, hb⟩
    rw [drop_end (by omega)]; rfl
  have h1 : 1 < T.size := by omega
  rw [drop_at h1]
  obtain ⟨U, hU1, hU2, hU3⟩ := tail_ex T 2 (by omega)
  rw [← hU3]
  by_cases hb : T[1].toNat = 98
  · refine (scanBits_b T U _ w hs hU1 rfl (by have := runL_le bitB U.data.toList; rw [← Lib.size_eq] at this; exact this) hU2 (by rw [u8_is (d := 98) hb])).mono ?_
    rintro e w' ⟨⟨k, t, n, hp, rfl⟩, hbe⟩
    refine ⟨bitsP_implR (s := U.data.toList.take (runL bitB U.data.toList)) ?_ (bitsL_b hb), hbe⟩
    have := ext_drop U 0 (runL bitB U.data.toList)
    rw [Nat.zero_add, List.drop_zero] at this
    rw [← this]; exact hp
  by_cases hx : T[1].toNat = 120
  · refine (scanBits_hex T U _ w hs hU1 rfl (by have := runL_le hexB U.data.toList; rw [← Lib.size_eq] at this; exact this) hU2 (by rw [u8_is (d := 120) hx])).mono ?_
    rintro e w' ⟨⟨k, t, n, hp, rfl⟩, hbe⟩
    exact ⟨bitsP_implR hp (bitsL_x hx), hbe⟩
  · refine (scanBits_other T w (by omega) hs hb hx).mono ?_
    rintro e w' ⟨rfl, hbe⟩
    refine ⟨?_, hbe⟩
    rw [bitsL_n hb hx]; rfl
theorem ext_0 (T : ByteArray) (r : Nat) : T.extract 0 r = strOf (T.data.toList.take r) := by
  have := ext_drop T 0 r
  rw [Nat.zero_add, List.drop_zero] at this
  exact this
theorem tokN_endT {T : ByteArray} (h0 : 0 < T.size) (h : runL dg T.data.toList = T.size) (h1 : ¬ (1 < T.size ∧ T[0].toNat = 48)) : tokN T.data.toList = (3, T.size) := by
  unfold tokN
  rw [h, if_neg, if_neg]
  · unfold partL; rw [drop_end (by omega)]; simp
  · rintro ⟨h2, h3⟩
    rw [head_at h0] at h3
    exact h1 ⟨h2, by rw [Option.some.inj h3]; rfl⟩
theorem tokN_neT {T : ByteArray} {k : Nat} (h0 : 0 < T.size) (_hk : k < T.size) (h : runL dg T.data.toList = k) (h1 : ¬ (1 < k ∧ T[0].toNat = 48)) (hp : partL T.data.toList k = 0) : tokN T.data.toList = (3, k) := by
  unfold tokN
  rw [h, if_neg, if_neg (by omega)]
  rintro ⟨h2, h3⟩
  rw [head_at h0] at h3
  exact h1 ⟨h2, by rw [Option.some.inj h3]; rfl⟩
theorem tokN_decT {T : ByteArray} {k m : Nat} (h0 : 0 < T.size) (_hk : k < T.size) (h : runL dg T.data.toList = k) (h1 : ¬ (1 < k ∧ T[0].toNat = 48)) (hp : partL T.data.toList k = m) (hm : 0 < m) : tokN T.data.toList = (4, k + 1 + m) := by
  unfold tokN
  rw [h, if_neg, hp, if_pos hm]
  rintro ⟨h2, h3⟩
  rw [head_at h0] at h3
  exact h1 ⟨h2, by rw [Option.some.inj h3]; rfl⟩
def numI (T : ByteArray) : Option (Int × List UInt8 × Nat) := if (tokN T.data.toList).1 = 0 then none else some ((tokN T.data.toList).1, T.data.toList.take (tokN T.data.toList).2, (tokN T.data.toList).2)
theorem numI_of {T : ByteArray} {c : Int} {n : Nat} (h : tokN T.data.toList = (c, n)) (hc : c ≠ 0) : resN c (T.extract 0 n) n = implR (numI T) := by
  unfold numI; rw [h]; simp only; rw [if_neg hc, ext_0]; rfl
theorem scanNumber_any (T : ByteArray) (w : World) (hs : T.size ≤ 50000) (h0 : 0 < T.size) (hd : dg T[0] = true) :
    Calls Tryd.prog 51 #[.string T] w fun e w' => e = implR (numI T) ∧ Below w.heap.size w w' := by
  have hk0 := runL_pos h0 hd
  have hkl := runL_le dg T.data.toList
  rw [← Lib.size_eq] at hkl
  obtain ⟨k, hk⟩ : ∃ k, runL dg T.data.toList = k := ⟨_, rfl⟩
  rw [hk] at hk0 hkl
  by_cases h1 : 1 < k ∧ T[0].toNat = 48
  · refine (scanNumber_0 T k w hs hk h1.1 h0 h1.2).mono ?_
    rintro e w' ⟨rfl, hb⟩
    refine ⟨?_, hb⟩
    have : tokN T.data.toList = (0, 0) := by
      unfold tokN; rw [hk, if_pos ⟨h1.1, by rw [head_at h0, u8_is (d := 48) h1.2]⟩]
    unfold numI; rw [this]; rfl
  by_cases he : k = T.size
  · subst he
    refine (scanNumber_end T w hs hk h0 h1).mono ?_
    rintro e w' ⟨rfl, hb⟩
    refine ⟨?_, hb⟩
    have := numI_of (tokN_endT h0 hk h1) (by decide)
    rw [ext_all] at this; exact this
  have hlt : k < T.size := by omega
  by_cases hp : T[k].toNat = 46
  · obtain ⟨U, hU1, hU2, hU3⟩ := tail_ex T (k + 1) (by omega)
    have hU1' : T.extract (k + 1) T.size = U := by rw [hU2]; exact hU1
    have hpart : partL T.data.toList k = runL dg U.data.toList := by
      unfold partL; rw [drop_at hlt, hU3]; simp only; rw [if_pos (u8_is (d := 46) hp)]
    by_cases hm : runL dg U.data.toList = 0
    · refine (scanNumber_pt T k U w hs hk hk0 h1 hlt hp hU1' hm).mono ?_
      rintro e w' ⟨rfl, hb⟩
      exact ⟨numI_of (tokN_neT h0 hlt hk h1 (by rw [hpart, hm])) (by decide), hb⟩
    · refine (scanNumber_dec T k U _ w hs hk hk0 h1 hlt hp hU1' rfl (by omega)).mono ?_
      rintro e w' ⟨rfl, hb⟩
      exact ⟨numI_of (tokN_decT h0 hlt hk h1 hpart (by omega)) (by decide), hb⟩
  · refine (scanNumber_other T k w hs hk hk0 h1 hlt hp).mono ?_
    rintro e w' ⟨rfl, hb⟩
    refine ⟨numI_of (tokN_neT h0 hlt hk h1 ?_) (by decide), hb⟩
    unfold partL; rw [drop_at hlt]; simp only; rw [if_neg]
    intro e; apply hp; rw [e]; rfl
theorem implR_form (o : Option (Int × List UInt8 × Nat)) : ∃ k t n, implR o = resN k t n := by
  cases o with
  | none => exact ⟨_, _, _, rfl⟩
  | some x => exact ⟨_, _, _, rfl⟩
theorem by_implR {f : Nat} {T : ByteArray} {o : Option (Int × List UInt8 × Nat)} (h : ∀ w, Calls Tryd.prog f #[.string T] w fun e w' => e = implR o ∧ Below w.heap.size w w') : ∀ w, Calls Tryd.prog f #[.string T] w fun e w' => (∃ k t n, resN k t n = implR o ∧ e = resN k t n) ∧ Below w.heap.size w w' := fun w => by
  refine (h w).mono ?_
  rintro e w' ⟨rfl, hb⟩
  obtain ⟨k, t, n, hf⟩ := implR_form o
  exact ⟨⟨k, t, n, hf.symm, hf⟩, hb⟩
theorem to_implR {f : Nat} {q : Int} {T : ByteArray} {o : Option (Int × List UInt8 × Nat)} {w : World} (h : Calls Tryd.prog f #[.int .i64 q, .string T] w fun e w' => (∃ k t n, resN k t n = implR o ∧ e = resN k t n) ∧ Below w.heap.size w w') : Calls Tryd.prog f #[.int .i64 q, .string T] w fun e w' => e = implR o ∧ Below w.heap.size w w' := by
  refine h.mono ?_
  rintro e w' ⟨⟨k, t, n, hf, rfl⟩, hb⟩
  exact ⟨hf, hb⟩
theorem scanBarred_any (T : ByteArray) (w : World) (hs : T.size ≤ 50000) (h0 : 0 < T.size) :
    Calls Tryd.prog 47 #[.string T] w fun e w' => e = implR (if (T.data.toList.drop 1)[runL barB (T.data.toList.drop 1)]? = some 124 then some (2, (T.data.toList.drop 1).take (runL barB (T.data.toList.drop 1)), runL barB (T.data.toList.drop 1) + 2) else none) ∧ Below w.heap.size w w' := by
  obtain ⟨U, hU1, hU2, hU3⟩ := tail_ex T 1 (by omega)
  rw [← hU3]
  obtain ⟨r, hr⟩ : ∃ r, runL barB U.data.toList = r := ⟨_, rfl⟩
  have hrl := runL_le barB U.data.toList
  rw [← Lib.size_eq, hr] at hrl
  rw [hr]
  have hx : U.data.toList[r]? = T.data.toList[1 + r]? := by rw [hU3, List.getElem?_drop]
  by_cases he : r = U.size
  · refine (scanBarred_end T U w hs hU1 (by rw [hr, he]) hU2).mono ?_
    rintro e w' ⟨rfl, hb⟩
    refine ⟨?_, hb⟩
    rw [if_neg]
    · rfl
    · rw [List.getElem?_eq_none (by rw [← Lib.size_eq]; omega)]; simp
  have hlt : r < U.size := by omega
  have h1 : 1 + r < T.size := by omega
  rw [hx, at_list h1]
  by_cases hc : T[1 + r].toNat = 124
  · refine (scanBarred_yes T U r w hs hU1 hr hlt hU2 (by rw [u8_is (d := 124) hc])).mono ?_
    rintro e w' ⟨rfl, hb⟩
    refine ⟨?_, hb⟩
    rw [if_pos (by rw [u8_is (d := 124) hc]), ext_drop, ← hU3]
    show resN _ _ _ = resN _ _ (r + 2)
    rw [show r + 2 = 1 + r + 1 by omega]
  · refine (scanBarred_no T U r w hs hU1 hr hlt hU2 hc).mono ?_
    rintro e w' ⟨rfl, hb⟩
    refine ⟨?_, hb⟩
    rw [if_neg]
    · rfl
    · intro e; apply hc; rw [Option.some.inj e]; rfl
theorem scanNode_any (T : ByteArray) (w : World) (hs : T.size ≤ 50000) (h0 : 0 < T.size) (hb : blankB T[0] = false) (h59 : T[0].toNat ≠ 59) (h41 : T[0].toNat ≠ 41) :
    Calls Tryd.prog 23 #[.int .i64 (tokB T[0]), .string T] w fun e w' => e = implR (nodeL T.data.toList) ∧ Below w.heap.size w w' := by
  have hd : T.data.toList = T[0] :: T.data.toList.drop 1 := by have := drop_at h0; rw [List.drop_zero] at this; exact this
  have hb' : ¬ (T[0].toNat = 32 ∨ T[0].toNat = 9 ∨ T[0].toNat = 10 ∨ T[0].toNat = 13) := by
    unfold blankB at hb
    simp only [Bool.or_eq_false_iff, decide_eq_false_iff_not] at hb
    omega
  by_cases h40 : T[0].toNat = 40
  · have ht : tokB T[0] = 4 := by unfold tokB; rw [if_neg hb', if_neg h59, if_neg h41, if_pos h40]
    rw [ht]
    refine (scanNode_open T w).mono ?_
    rintro e w' ⟨rfl, hb⟩
    refine ⟨?_, hb⟩
    unfold nodeL
    rw [if_pos (by rw [head_at h0, u8_is (d := 40) h40])]; rfl
  have hnl : nodeL T.data.toList = tokL T.data.toList := by
    unfold nodeL
    rw [if_neg]
    rw [head_at h0]; intro e; apply h40; rw [Option.some.inj e]; rfl
  rw [hnl]
  by_cases h34 : T[0].toNat = 34
  · have ht : tokB T[0] = 5 := by unfold tokB; rw [if_neg hb', if_neg h59, if_neg h41, if_neg h40, if_pos h34]
    have htl : tokL T.data.toList = (scanT (T.data.toList.drop 1)).map (fun x => (6, x.1, x.2 + 1)) := by
      rw [hd]; unfold tokL; simp only; rw [if_pos h34]; rfl
    rw [ht, htl]
    refine to_implR (scanNode_scanText T _ w (by_implR fun w => ?_))
    refine (scanText_any T w hs h0).mono ?_
    rintro e w' ⟨rfl, hbe⟩
    refine ⟨?_, hbe⟩
    cases scanT (T.data.toList.drop 1) <;> rfl
  by_cases h124 : T[0].toNat = 124
  · have ht : tokB T[0] = 6 := by unfold tokB; rw [if_neg hb', if_neg h59, if_neg h41, if_neg h40, if_neg h34, if_pos h124]
    have htl : tokL T.data.toList = if (T.data.toList.drop 1)[runL barB (T.data.toList.drop 1)]? = some 124 then some (2, (T.data.toList.drop 1).take (runL barB (T.data.toList.drop 1)), runL barB (T.data.toList.drop 1) + 2) else none := by
      rw [hd]; unfold tokL; simp only; rw [if_neg h34, if_pos h124]; rfl
    rw [ht, htl]
    exact to_implR (scanNode_scanBarred T _ w (by_implR fun w => scanBarred_any T w hs h0))
  by_cases h58 : T[0].toNat = 58
  · have ht : tokB T[0] = 7 := by unfold tokB; rw [if_neg hb', if_neg h59, if_neg h41, if_neg h40, if_neg h34, if_neg h124, if_pos h58]
    obtain ⟨U, hU1, hU2, hU3⟩ := tail_ex T 1 (by omega)
    obtain ⟨r, hr⟩ : ∃ r, runL nameB U.data.toList = r := ⟨_, rfl⟩
    have hrl := runL_le nameB U.data.toList
    rw [← Lib.size_eq, hr] at hrl
    have htl : tokL T.data.toList = if r = 0 then none else some (7, U.data.toList.take r, r + 1) := by
      rw [hd]; unfold tokL; simp only; rw [if_neg h34, if_neg h124, if_pos h58, ← hU3, hr]
    rw [ht, htl]
    by_cases hr0 : r = 0
    · refine (scanNode_key0 T U w h0 hs hU1 (by rw [hr, hr0]) hU2).mono ?_
      rintro e w' ⟨rfl, hbe⟩
      refine ⟨?_, hbe⟩
      rw [if_pos hr0]; rfl
    · refine (scanNode_key T U r w h0 hs hU1 hr (by omega) hrl hU2).mono ?_
      rintro e w' ⟨rfl, hbe⟩
      refine ⟨?_, hbe⟩
      rw [if_neg hr0, ext_drop, ← hU3]
      show resN _ _ _ = resN _ _ (r + 1)
      rw [Nat.add_comm r 1]
  by_cases h35 : T[0].toNat = 35
  · have ht : tokB T[0] = 8 := by unfold tokB; rw [if_neg hb', if_neg h59, if_neg h41, if_neg h40, if_neg h34, if_neg h124, if_neg h58, if_pos h35]
    have htl : tokL T.data.toList = bitsL (T.data.toList.drop 1) := by
      rw [hd]; unfold tokL; simp only; rw [if_neg h34, if_neg h124, if_neg h58, if_pos h35]; rfl
    rw [ht, htl]
    exact to_implR (scanNode_scanBits T _ w (by_implR fun w => scanBits_any T w hs h0))
  by_cases hg : dg T[0] = true
  · have ht : tokB T[0] = 9 := tokB_dg hg
    have htl : tokL T.data.toList = numI T := by
      unfold numI; rw [hd]; unfold tokL; simp only; rw [if_neg h34, if_neg h124, if_neg h58, if_neg h35, if_pos hg]
    rw [ht, htl]
    exact to_implR (scanNode_scanNumber T _ w (by_implR fun w => scanNumber_any T w hs h0 hg))
  have hg' : dg T[0] = false := by simpa using hg
  by_cases hn : nameB T[0] = true
  · have ht : tokB T[0] = 10 := tokB_name hn hg'
    have htl : tokL T.data.toList = some (2, T.data.toList.take (runL nameB T.data.toList), runL nameB T.data.toList) := by
      rw [hd]; unfold tokL; simp only; rw [if_neg h34, if_neg h124, if_neg h58, if_neg h35, if_neg hg, if_pos hn]
    have hrl := runL_le nameB T.data.toList
    rw [← Lib.size_eq] at hrl
    rw [ht, htl]
    refine (scanNode_name T _ w hs rfl hrl).mono ?_
    rintro e w' ⟨rfl, hbe⟩
    refine ⟨?_, hbe⟩
    rw [ext_0]; rfl
  · have hn' : nameB T[0] = false := by simpa using hn
    have ht : tokB T[0] = 0 := by unfold tokB; rw [if_neg hb', if_neg h59, if_neg h41, if_neg h40, if_neg h34, if_neg h124, if_neg h58, if_neg h35, hg', hn']; rfl
    have htl : tokL T.data.toList = none := by
      rw [hd]; unfold tokL; simp only; rw [if_neg h34, if_neg h124, if_neg h58, if_neg h35, if_neg hg, if_neg hn]
    rw [ht, htl]
    refine (scanNode_none T w).mono ?_
    rintro e w' ⟨rfl, hbe⟩
    exact ⟨rfl, hbe⟩
end Go.Proofs.YtdngpnlbhadbpaaDoor
