import Derived.Test.YtdngpnlbhadbpaaDoorTkB
namespace Go.Proofs.YtdngpnlbhadbpaaDoor
open Go.ChangeShapes Go.WideShapes Go.ChangeAt Go.RowKit
set_option linter.unusedSimpArgs false
def barR (s : ByteArray) (i r : Nat) : Ending := if ∃ h : i + 1 + r < s.size, s[i + 1 + r].toNat = 124 then resK 2 (s.extract (i + 1) (i + 1 + r)) (i + 1 + r + 1) else resK 0 ⟨#[]⟩ 0
theorem barR_yes {s : ByteArray} {i r k : Nat} (e : k = i + 1 + r) (h : k < s.size) (hc : s[k].toNat = 124) : Ending.returned (.agg #[.int .i64 2, .string (s.extract (i + 1) k), .int .i64 ((k + 1 : Nat) : Int)]) = barR s i r := by
  subst e; unfold barR; rw [if_pos ⟨h, hc⟩]; rfl
theorem barR_no {s : ByteArray} {i r k : Nat} (e : k = i + 1 + r) (hc : ∀ h : k < s.size, s[k].toNat ≠ 124) : Ending.returned (.agg #[.int .i64 0, .string ⟨#[]⟩, .int .i64 0]) = barR s i r := by
  subst e; unfold barR; rw [if_neg (fun ⟨h, h'⟩ => hc h h')]; rfl
set_option maxRecDepth 100000 in
set_option maxHeartbeats 4000000 in
theorem l3Token_bar (s : ByteArray) (i r : Nat) (w : World) (hs : s.size ≤ 20000) (hi : i < s.size) (hd : s[i].toNat = 124) (hr : runL barB (s.data.toList.drop (i + 1)) = r) :
    Calls Tryd.prog 56 #[.string s, .int .i64 (i : Nat)] w fun e w' => e = barR s i r ∧ Below w.heap.size w w' := by
  have HR : Hid (∀ j, i + 1 ≤ j → j ≤ s.size → runL barB (s.data.toList.drop (i + 1)) = j - (i + 1) → j = i + 1 + r) := fun j h1 h2 h3 => by omega
  have z0 : ((s[i].toNat : Int) == 34) = false := by rw [beq_eq_false_iff_ne]; omega
  have z1 : ((s[i].toNat : Int) == 124) = true := by rw [beq_iff_eq]; omega
  clear hd hr
  go_enter Tryd.func56, Tryd.ntmps56
  go_wp2_with fail
  clear z0 z1
  go_loop [8] (fun v => ∃ k : Nat, i + 1 ≤ k ∧ k ≤ s.size ∧ v = .int .i64 k ∧ ((s.data.toList.drop (i + 1)).take (k - (i + 1))).all barB = true) (fun v => s.size - (intOf v).toNat)
  case atStart => exact ⟨i + 1, Nat.le_refl _, by omega, by go_num, by simp⟩
  case round =>
    obtain ⟨k, hik, hk, rfl, hp⟩ := hrel
    have HP : Hid (((s.data.toList.drop (i + 1)).take (k - (i + 1))).all barB = true) := hp
    clear hp
    by_cases hlt : k < s.size
    · have HF : Hid (barB s[k] = false → k = i + 1 + r) := fun h => HR.out k hik hk (runL_drop_stop hik hk HP.out (fun _ => h))
      by_cases h1 : s[k].toNat = 124
      · have F : Hid (k = i + 1 + r) := HF.out (by rw [Bool.eq_false_iff, ne_eq, barB_iff]; omega)
        have HY := hidG (barR_yes F.out hlt h1)
        have y1 : ((s[k].toNat : Int) == 124) = true := by rw [beq_iff_eq]; omega
        have y2 : ((s[k].toNat : Int) != 124) = false := by rw [bne_eq_false_iff_eq]; omega
        have y3 : decide ((32 : Int) ≤ (s[k].toNat : Int)) = true := by rw [decide_eq_true_iff]; omega
        have y4 : decide ((s[k].toNat : Int) ≤ 126) = true := by rw [decide_eq_true_iff]; omega
        clear h1 F
        go_wp2_with fail
        refine bodyPost_ret (v := .agg #[.int .i64 2, .string (s.extract (i + 1) k), .int .i64 ((k + 1 : Nat) : Int)]) ?_ rfl ⟨HY.out, below_alloc _ _⟩
        simp [results, Tryd.results56, go_sem]
      · have y1 : ((s[k].toNat : Int) == 124) = false := by rw [beq_eq_false_iff_ne]; omega
        have y2 : ((s[k].toNat : Int) != 124) = true := by rw [bne_iff_ne]; omega
        have HN : Hid (barB s[k] = false → Ending.returned (.agg #[.int .i64 0, .string ⟨#[]⟩, .int .i64 0]) = barR s i r) := fun h => barR_no (HF.out h) (fun _ => h1)
        go_wp2_with fail
        all_goals first
          | (go_round
             case rel => exact ⟨k + 1, by omega, by omega, by go_num, all_drop_snoc hik hlt HP.out (by
               rw [barB_iff]; (try simp only [beq_iff_eq, beq_eq_false_iff_ne, bne_iff_ne, bne_eq_false_iff_eq, ne_eq] at *)
               omega)⟩
             case measure => simp [intOf]; omega)
          | (refine bodyPost_ret (v := .agg #[.int .i64 0, .string ⟨#[]⟩, .int .i64 0]) ?_ rfl ⟨HN.out (by
               rw [Bool.eq_false_iff, ne_eq, barB_iff]; (try simp only [beq_iff_eq, beq_eq_false_iff_ne, bne_iff_ne, bne_eq_false_iff_eq, ne_eq] at *)
               omega), below_alloc _ _⟩
             simp [results, Tryd.results56, go_sem])
    · have HN := hidG (barR_no (HR.out k hik hk (runL_drop_stop hik hk HP.out (fun h => absurd h hlt))) (fun h => absurd h hlt))
      go_wp2_with fail
      refine bodyPost_ret (v := .agg #[.int .i64 0, .string ⟨#[]⟩, .int .i64 0]) ?_ rfl ⟨HN.out, below_alloc _ _⟩
      simp [results, Tryd.results56, go_sem]
end Go.Proofs.YtdngpnlbhadbpaaDoor
