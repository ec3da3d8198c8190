import Derived.Test.YtdphpfffofeklaaDoorPtSh
namespace Go.Proofs.YtdphpfffofeklaaDoor.P
open Go.ChangeShapes Go.WideShapes Go.ChangeAt Go.RowKit
open L (strOf strOf_toList strOf_size Tn hidG below_alloc Bx bx_new StrsAt)
set_option maxHeartbeats 400000 in
theorem cut_any (s : ByteArray) (w : World) (hs : s.size ≤ maxLen) :
    Calls Tryd.prog 54 #[.string s, .string ⟨#[45]⟩] w fun e w' => e = .returned (.tuple #[.string (dgs s), .bool (isNeg s)]) ∧ w' = w := by
  unfold maxLen at hs
  have hT : ((s.extract 0 1).toList == [45]) = true → dgs s = s.extract 1 s.size ∧ isNeg s = true := fun h => ⟨by unfold dgs isNeg; rw [if_pos h], h⟩
  have hF : ((s.extract 0 1).toList == [45]) = false → dgs s = s ∧ isNeg s = false := fun h => ⟨by unfold dgs isNeg; rw [if_neg (by rw [h]; decide)], h⟩
  have hE : ¬ 1 ≤ (s.size : Int) → dgs s = s ∧ isNeg s = false := fun h => hF (by
    rw [Lib.extract_toList]
    have : s.data.toList = [] := by
      have := Lib.size_eq s
      exact List.eq_nil_of_length_eq_zero (by omega)
    rw [this]; rfl)
  have HT : Hid ((!((s.extract 0 1).toList == [45])) = false → dgs s = s.extract 1 s.size ∧ isNeg s = true) := fun h => hT (by simpa using h)
  have HF : Hid ((!((s.extract 0 1).toList == [45])) = true → dgs s = s ∧ isNeg s = false) := fun h => hF (by simpa using h)
  have HE := hidG hE
  clear hT hF hE
  go_enter Tryd.func54, Tryd.ntmps54
  go_wp2
  · obtain ⟨k1, k2⟩ := HF.out ‹_›
    refine bodyPost_ret (v := .tuple #[.string s, .bool false]) ?_ rfl ⟨by rw [k1, k2], rfl⟩
    simp [results, Tryd.results54, go_sem]
  · obtain ⟨k1, k2⟩ := HT.out ‹_›
    refine bodyPost_ret (v := .tuple #[.string (s.extract 1 s.size), .bool true]) ?_ rfl ⟨by rw [k1, k2], rfl⟩
    simp [results, Tryd.results54, go_sem]
  · obtain ⟨k1, k2⟩ := HE.out (by omega)
    refine bodyPost_ret (v := .tuple #[.string s, .bool false]) ?_ rfl ⟨by rw [k1, k2], rfl⟩
    simp [results, Tryd.results54, go_sem]
set_option maxHeartbeats 400000 in
theorem signedText_any (s : List UInt8) (w : World) (hs : s.length ≤ 1000000000) :
    Calls Tryd.prog 41 #[.string (strOf s)] w fun e w' => e = .returned (.string (strOf (sgnT s))) ∧ w' = w := by
  obtain ⟨e1, e2⟩ := dgs_list s
  have hz : (strOf s).size ≤ maxLen := by rw [strOf_size]; unfold maxLen; omega
  have hdz := dgs_size (strOf s)
  rw [strOf_size] at hdz
  obtain ⟨d, hd⟩ : ∃ d, dgs (strOf s) = d := ⟨_, rfl⟩
  rw [hd] at e1 hdz
  have HD := hidG hd
  have HE := hidG e2
  have HZ := hidG hz
  have HDL := hidG e1
  clear hd e1 e2 hz
  cases hn : ngL s with
  | true =>
    have HS : Hid (strOf (sgnT s) = ⟨#[40, 45, 32]⟩ ++ d ++ ⟨#[41]⟩) := by
      unfold Hid
      have e : sgnT s = [40, 45, 32] ++ d.data.toList ++ [41] := by
        rw [HDL.out]
        unfold sgnT dgL
        rw [hn]
        simp
      rw [e]
      obtain ⟨⟨l⟩⟩ := d
      apply ByteArray.ext
      simp [L.strOf]
    have HN := hidG hn
    clear hn
    go_enter Tryd.func41, Tryd.ntmps41
    go_wp2_with (go_at_call 54; refine (cut_any _ _ HZ.out).mono ?_; rintro e w' ⟨rfl, rfl⟩; rw [HD.out, HE.out, HN.out])
    go_ret
    rw [HS.out]
    exact ⟨rfl, rfl⟩
  | false =>
    have HS : Hid (strOf (sgnT s) = strOf s) := by unfold Hid sgnT; rw [hn]; rfl
    have HN := hidG hn
    clear hn
    go_enter Tryd.func41, Tryd.ntmps41
    go_wp2_with (go_at_call 54; refine (cut_any _ _ HZ.out).mono ?_; rintro e w' ⟨rfl, rfl⟩; rw [HD.out, HE.out, HN.out])
    go_ret
    rw [HS.out]
    exact ⟨rfl, rfl⟩
end Go.Proofs.YtdphpfffofeklaaDoor.P
