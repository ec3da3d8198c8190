import Derived.Test.YtdngpnlbhadbpaaDoorTkA
namespace Go.Proofs.YtdngpnlbhadbpaaDoor
open Go.ChangeShapes Go.WideShapes Go.ChangeAt Go.RowKit
def keyR (s : ByteArray) (i r : Nat) : Ending := if r = 0 then resK 0 ⟨#[]⟩ 0 else resK 7 (s.extract (i + 1) (i + 1 + r)) (i + 1 + r)
set_option maxRecDepth 100000 in
set_option maxHeartbeats 4000000 in
theorem l3Token_key (s : ByteArray) (i r : Nat) (w : World) (hs : s.size ≤ 20000) (hi : i < s.size) (hd : s[i].toNat = 58) (hr : runL nameB (s.data.toList.drop (i + 1)) = r) :
    Calls Tryd.prog 56 #[.string s, .int .i64 (i : Nat)] w fun e w' => e = keyR s i r ∧ Below w.heap.size w w' := by
  have HR : Hid (∀ j, i + 1 ≤ j → j ≤ s.size → runL nameB (s.data.toList.drop (i + 1)) = j - (i + 1) → j = i + 1 + r) := fun j h1 h2 h3 => by omega
  have z0 : ((s[i].toNat : Int) == 34) = false := by rw [beq_eq_false_iff_ne]; omega
  have z1 : ((s[i].toNat : Int) == 124) = false := by rw [beq_eq_false_iff_ne]; omega
  have z2 : ((s[i].toNat : Int) == 58) = true := by rw [beq_iff_eq]; omega
  clear hd hr
  go_enter Tryd.func56, Tryd.ntmps56
  go_wp2_with first
    | (go_at_call 55; refine (l3Digit_ex _ _).mono ?_; rintro e w' ⟨rfl, rfl⟩)
    | (go_at_call 54; refine (l3NameByte_ex _ _).mono ?_; rintro e w' ⟨rfl, rfl⟩)
  clear z0 z1 z2
  go_loop [9] (fun v => ∃ k : Nat, i + 1 ≤ k ∧ k ≤ s.size ∧ v = .int .i64 k ∧ ((s.data.toList.drop (i + 1)).take (k - (i + 1))).all nameB = true) (fun v => s.size - (intOf v).toNat)
  case atStart => exact ⟨i + 1, Nat.le_refl _, by omega, by go_num, by simp⟩
  case round =>
    obtain ⟨k, hik, hk, rfl, hp⟩ := hrel
    have HP : Hid (((s.data.toList.drop (i + 1)).take (k - (i + 1))).all nameB = true) := hp
    clear hp
    have HE : Hid (k = i + 1 + r → k = i + 1 → (Ending.returned (.agg #[.int .i64 0, .string ⟨#[]⟩, .int .i64 0])) = keyR s i r) := fun h1 h2 => by unfold keyR; rw [if_pos (by omega)]; rfl
    have HF : Hid (k = i + 1 + r → k ≠ i + 1 → (Ending.returned (.agg #[.int .i64 7, .string (s.extract (i + 1) k), .int .i64 (k : Nat)])) = keyR s i r) := fun h1 h2 => by unfold keyR; rw [if_neg (by omega), h1]; rfl
    by_cases hgo : ∃ h : k < s.size, nameB s[k] = true
    · obtain ⟨hlt, hc⟩ := hgo
      go_wp2_with first
        | (go_at_call 55; refine (l3Digit_ex _ _).mono ?_; rintro e w' ⟨rfl, rfl⟩)
        | (go_at_call 54; refine (l3NameByte_ex _ _).mono ?_; rintro e w' ⟨rfl, rfl⟩)
      go_round
      case rel => exact ⟨k + 1, by omega, by omega, by go_num, all_drop_snoc hik hlt HP.out hc⟩
      case measure => simp [intOf]; omega
    · have F : Hid (k = i + 1 + r) := HR.out k hik hk (runL_drop_stop hik hk HP.out (fun h => by cases hq : nameB s[k] with
        | true => exact absurd ⟨h, hq⟩ hgo
        | false => rfl))
      have hno : ∀ h : k < s.size, nameB s[k] = false := fun h => by cases hq : nameB s[k] with
        | true => exact absurd ⟨h, hq⟩ hgo
        | false => rfl
      clear hgo
      by_cases hz : k = i + 1
      · have y1 : ((k : Int) == (i : Int) + 1) = true := by rw [beq_iff_eq]; omega
        have E := HE.out F.out hz
        have HG := hidG E
        clear E hz
        by_cases hlt : k < s.size
        · have hc := hno hlt
          go_wp2_with first
            | (go_at_call 55; refine (l3Digit_ex _ _).mono ?_; rintro e w' ⟨rfl, rfl⟩)
            | (go_at_call 54; refine (l3NameByte_ex _ _).mono ?_; rintro e w' ⟨rfl, rfl⟩)
          refine bodyPost_ret (v := .agg #[.int .i64 0, .string ⟨#[]⟩, .int .i64 0]) ?_ rfl ⟨HG.out, below_alloc _ _⟩
          simp [results, Tryd.results56, go_sem]
        · go_wp2_with first
            | (go_at_call 55; refine (l3Digit_ex _ _).mono ?_; rintro e w' ⟨rfl, rfl⟩)
            | (go_at_call 54; refine (l3NameByte_ex _ _).mono ?_; rintro e w' ⟨rfl, rfl⟩)
          refine bodyPost_ret (v := .agg #[.int .i64 0, .string ⟨#[]⟩, .int .i64 0]) ?_ rfl ⟨HG.out, below_alloc _ _⟩
          simp [results, Tryd.results56, go_sem]
      · have y1 : ((k : Int) == (i : Int) + 1) = false := by rw [beq_eq_false_iff_ne]; omega
        have E := HF.out F.out hz
        have HG := hidG E
        clear E hz
        by_cases hlt : k < s.size
        · have hc := hno hlt
          go_wp2_with first
            | (go_at_call 55; refine (l3Digit_ex _ _).mono ?_; rintro e w' ⟨rfl, rfl⟩)
            | (go_at_call 54; refine (l3NameByte_ex _ _).mono ?_; rintro e w' ⟨rfl, rfl⟩)
          refine bodyPost_ret (v := .agg #[.int .i64 7, .string (s.extract (i + 1) k), .int .i64 (k : Nat)]) ?_ rfl ⟨HG.out, below_alloc _ _⟩
          simp [results, Tryd.results56, go_sem]
        · go_wp2_with first
            | (go_at_call 55; refine (l3Digit_ex _ _).mono ?_; rintro e w' ⟨rfl, rfl⟩)
            | (go_at_call 54; refine (l3NameByte_ex _ _).mono ?_; rintro e w' ⟨rfl, rfl⟩)
          refine bodyPost_ret (v := .agg #[.int .i64 7, .string (s.extract (i + 1) k), .int .i64 (k : Nat)]) ?_ rfl ⟨HG.out, below_alloc _ _⟩
          simp [results, Tryd.results56, go_sem]
end Go.Proofs.YtdngpnlbhadbpaaDoor
