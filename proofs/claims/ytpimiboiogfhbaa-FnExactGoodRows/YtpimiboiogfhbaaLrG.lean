import Derived.Test.YtpimiboiogfhbaaLrB
import Derived.Test.YtpimiboiogfhbaaM8
import Derived.Test.YtpimiboiogfhbaaReadSpec
import Derived.Test.YtpimiboiogfhbaaTextBack
namespace Go.Proofs.Ytpimiboiogfhbaa.L
open Go.ChangeShapes Go.WideShapes Go.ChangeAt Go.RowKit
/-- A text of a row: a whole number of at most 40 digits. -/
def textOk (s : List UInt8) : Bool := isIntB (strOf s) && decide ((dgs (strOf s)).size ≤ 40)
def rowOk (cols : Int) (f : Lr) : Bool := decide ((f.cs.length : Int) = cols) && textOk f.bd && f.cs.all textOk
def goodR (cols : Int) (F : List Lr) : Bool := decide (0 ≤ cols ∧ cols ≤ 20 ∧ F.length ≤ 50) && F.all (rowOk cols)
theorem dgs_ge (s : ByteArray) : s.size ≤ (dgs s).size + 1 := by
  unfold dgs; split
  · rw [ByteArray.size_extract]; omega
  · omega
theorem textOk_long {s : List UInt8} (h : ¬ s.length ≤ 41) : textOk s = false := by
  have h1 := dgs_ge (strOf s)
  rw [strOf_size] at h1
  unfold textOk
  rw [decide_eq_false (by omega), Bool.and_false]
/-- So many digits as the text has. -/
theorem dig_count (s : ByteArray) (h : isIntB s = true) : digC (trimL (chunks (dgs s).data.toList)) = (dgs s).size := by
  obtain ⟨hdig, h1, h2⟩ := isIntB_dig s h
  unfold isIntB at h
  simp only [Bool.and_eq_true, Bool.or_eq_true, decide_eq_true_eq, Bool.not_eq_true', decide_eq_false_iff_not, List.all_eq_true] at h
  obtain ⟨_, h4⟩ := h
  by_cases h5 : (dgs s).data.toList.head? = some 48
  · have h6 : s.toList = [48] := by
      rcases h4 with h | h
      · exact absurd h5 h
      · simpa using h
    have h7 : s = strB [48] := by
      rw [ByteArray.toList_eq] at h6
      apply ByteArray.ext
      show s.data = [48].toArray
      rw [← h6]
    have e : digC (trimL (chunks (dgs (strB [48])).data.toList)) = (dgs (strB [48])).size := by kernel_rfl
    rw [h7]
    exact e
  · have ht : textD (trimL (chunks (dgs s).data.toList)) = (dgs s).data.toList := textD_chunks (dgs s).data.toList hdig h5
    have hlen : (dgs s).data.toList.length = (dgs s).size := by simp
    have hne : ¬ (trimL (chunks (dgs s).data.toList)).length = 0 := fun e => by
      rw [List.eq_nil_of_length_eq_zero e] at ht
      have h8 : (dgs s).data.toList.length = 0 := by rw [← ht]; rfl
      omega
    unfold digC
    rw [if_neg hne, ht, hlen]
theorem limbs_few (s : ByteArray) (h : isIntB s = true) : (trimL (chunks (dgs s).data.toList)).length ≤ 600 := by
  obtain ⟨_, _, h2⟩ := isIntB_dig s h
  have h1 := trimL_len (chunks (dgs s).data.toList)
  have h3 : (chunks (dgs s).data.toList).length = cnt (dgs s).size := by unfold chunks; simp
  unfold cnt at h3
  omega
set_option maxRecDepth 100000 in
set_option maxHeartbeats 1000000 in
theorem isRowNumber_any (s : List UInt8) (w : World) (hs : s.length ≤ 1048576) :
    Calls Try.prog 12 #[.string (strOf s)] w fun e w' => e = .returned (.bool (textOk s)) ∧ Below w.heap.size w w' := by
  have h1 := strOf_size s
  have h2 : (strOf s).size ≤ maxLen := by unfold maxLen; omega
  have h3 := dgs_size (strOf s)
  unfold textOk
  obtain ⟨X, hX⟩ : ∃ X, strOf s = X := ⟨_, rfl⟩
  rw [hX] at h2 h3 ⊢
  obtain ⟨b, hb⟩ : ∃ b, isIntB X = b := ⟨_, rfl⟩
  have HB := hidG hb
  obtain ⟨D, hD⟩ : ∃ D, dgs X = D := ⟨_, rfl⟩
  have HD := hidG hD
  rw [hb, hD]
  have hz : (D.size : Int) ≤ 1048576 := by rw [hD] at h3; rw [hX] at h1; omega
  clear hb hD hX h1 h3
  cases b
  · go_enter Try.func12, Try.ntmps12
    go_wp2_with (go_at_call 19; refine (isInt_impl _ _ h2).mono ?_; rintro e w' ⟨rfl, rfl⟩; rw [HB.out])
    go_ret
    exact ⟨rfl, Below.refl _ _⟩
  · go_enter Try.func12, Try.ntmps12
    go_wp2_with (first
      | (go_at_call 19; refine (isInt_impl _ _ h2).mono ?_; rintro e w' ⟨rfl, rfl⟩; rw [HB.out])
      | (go_at_call 20; refine (trim_any _ _ h2).mono ?_; rintro e w' ⟨rfl, rfl⟩; rw [HD.out]))
    go_ret
    refine ⟨ret_bool ?_, Below.refl _ _⟩
    rw [Bool.true_and, decide_eq_decide]
    omega
set_option maxRecDepth 100000 in
set_option maxHeartbeats 1000000 in
theorem l12Text_any (s : List UInt8) (w : World) (hs : s.length ≤ 1048576) :
    Calls Try.prog 10 #[.string (strOf s)] w fun e w' => e = .returned (.bool (textOk s)) ∧ Below w.heap.size w w' := by
  by_cases h41 : s.length ≤ 41
  · have h1 := strOf_size s
    have h2 : (strOf s).size ≤ maxLen := by unfold maxLen; omega
    unfold textOk
    obtain ⟨X, hX⟩ : ∃ X, strOf s = X := ⟨_, rfl⟩
    rw [hX] at h1 h2 ⊢
    have y : decide ((41 : Int) < (X.size : Int)) = false := by rw [decide_eq_false_iff_not]; omega
    have hz : (X.size : Int) ≤ 41 := by omega
    obtain ⟨b, hb⟩ : ∃ b, isIntB X = b := ⟨_, rfl⟩
    have HB := hidG hb
    rw [hb]
    clear hb hX h1
    cases b
    · go_enter Try.func10, Try.ntmps10
      go_wp2_with (go_at_call 15; refine (isInt_spec _ _ h2).mono ?_; rintro e w' ⟨rfl, hw'⟩; subst w'; rw [HB.out])
      go_ret
      exact ⟨rfl, Below.refl _ _⟩
    · have HC : Hid (digC (trimL (chunks (dgs X).data.toList)) = (dgs X).size) := dig_count X HB.out
      have h600 := limbs_few X HB.out
      have HF := hidG h600
      clear h600
      have hzz := dgs_size X
      go_enter Try.func10, Try.ntmps10
      go_wp2_with (go_at_call 15; refine (isInt_spec _ _ h2).mono ?_; rintro e w' ⟨rfl, hw'⟩; subst w'; rw [HB.out])
      refine (l1Read_any X w HB.out).mono ?_
      rintro e w1 ⟨z, rfl, hz1, hb1⟩
      have HZ := hidG hz1
      have HB1 := hidG hb1
      clear hz1 hb1
      go_wp2_with fail
      refine (l1Digits_any w.heap.size z (isNeg X) _ w1 HZ.out HB1.out.size HF.out).mono ?_
      rintro e w2 ⟨rfl, hb2⟩
      have HB2 : Hid (Below w.heap.size w w2) := HB1.out.trans (hb2.mono HB1.out.size)
      rw [HC.out]
      clear hb2
      obtain ⟨n, hn⟩ : ∃ n, (dgs X).size = n := ⟨_, rfl⟩
      have HN := hidG hn
      rw [hn] at hzz ⊢
      clear hn
      go_wp2_with fail
      go_ret
      refine ⟨ret_bool ?_, HB2.out⟩
      have hn := HN.out
      rw [Bool.true_and, decide_eq_decide]
      omega
  · rw [textOk_long h41]
    have h1 := strOf_size s
    obtain ⟨X, hX⟩ : ∃ X, strOf s = X := ⟨_, rfl⟩
    rw [hX] at h1 ⊢
    have y : decide ((41 : Int) < (X.size : Int)) = true := by rw [decide_eq_true_iff]; omega
    have hz : (X.size : Int) ≤ 1048576 := by omega
    clear hX h1
    go_enter Try.func10, Try.ntmps10
    go_wp2_with fail
    go_ret
    exact ⟨rfl, Below.refl _ _⟩
end Go.Proofs.Ytpimiboiogfhbaa.L
