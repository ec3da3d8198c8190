import Derived.Test.YtdngpnlbhadbpaaDoorTrW
namespace Go.Proofs.YtdngpnlbhadbpaaDoor
open Go.ChangeShapes Go.WideShapes Go.ChangeAt Go.RowKit
/-- Behind the digits: a point and so many digits, or none. -/
def partL (t : List UInt8) (k : Nat) : Nat := match t.drop k with | c :: r => if c = 46 then runL dg r else 0 | [] => 0
def tokN (t : List UInt8) : Int × Nat :=
  if 1 < runL dg t ∧ t.head? = some 48 then (0, 0)
  else if 0 < partL t (runL dg t) then (4, runL dg t + 1 + partL t (runL dg t)) else (3, runL dg t)
theorem runL_pos {p : UInt8 → Bool} {s : ByteArray} (h : 0 < s.size) (h0 : p s[0] = true) : 0 < runL p s.data.toList := by
  obtain ⟨⟨l⟩⟩ := s
  cases l with
  | nil => simp [ByteArray.size] at h
  | cons a l => have h0' : p a = true := h0; show 0 < runL p (a :: l); unfold runL; rw [if_pos h0']; omega
theorem drop_cons {s : ByteArray} {k : Nat} (h : k < s.size) : s.data.toList.drop k = s[k] :: s.data.toList.drop (k + 1) := by
  rw [List.drop_eq_getElem_cons (by rw [← Lib.size_eq]; exact h)]; rfl
theorem partL_end {s : ByteArray} {k : Nat} (h : ¬ k < s.size) : partL s.data.toList k = 0 := by
  unfold partL; rw [List.drop_of_length_le (by rw [← Lib.size_eq]; omega)]
theorem partL_other {s : ByteArray} {k : Nat} (h : k < s.size) (h1 : s[k].toNat ≠ 46) : partL s.data.toList k = 0 := by
  unfold partL; rw [drop_cons h]
  have : s[k] ≠ 46 := fun e => h1 (by rw [e]; rfl)
  simp [this]
theorem partL_dot {s : ByteArray} {k : Nat} (h : k < s.size) (h1 : s[k].toNat = 46) : partL s.data.toList k = runL dg (s.data.toList.drop (k + 1)) := by
  unfold partL; rw [drop_cons h]
  have : s[k] = 46 := UInt8.toNat_inj.1 (by rw [h1]; rfl)
  simp [this]
theorem runL_drop_zero {p : UInt8 → Bool} {s : ByteArray} {k : Nat} (h : ∀ hk : k < s.size, p s[k] = false) : runL p (s.data.toList.drop k) = 0 := by
  by_cases hk : k < s.size
  · rw [drop_cons hk]; unfold runL; rw [if_neg (by rw [h hk]; decide)]
  · rw [List.drop_of_length_le (by rw [← Lib.size_eq]; omega)]; rfl
/-- A loop that goes on from k to j. -/
theorem runL_drop_stop {p : UInt8 → Bool} {s : ByteArray} {k j : Nat} (hkj : k ≤ j) (h : j ≤ s.size) (hp : ((s.data.toList.drop k).take (j - k)).all p = true) (h1 : ∀ h : j < s.size, p s[j] = false) : runL p (s.data.toList.drop k) = j - k := by
  refine runL_at (by rw [List.length_drop, ← Lib.size_eq]; omega) (fun i hi hij => ?_) (fun hj => ?_)
  · rw [List.all_eq_true] at hp
    refine hp _ ?_
    rw [List.mem_take_iff_getElem]
    exact ⟨i, by omega, rfl⟩
  · rw [List.length_drop, ← Lib.size_eq] at hj
    have hj' : j < s.size := by omega
    have e : (s.data.toList.drop k)[j - k]'(by rw [List.length_drop, ← Lib.size_eq]; omega) = s[j] := by
      rw [List.getElem_drop]
      have : k + (j - k) = j := by omega
      simp only [this]; rfl
    rw [e]; exact h1 hj'
theorem all_drop_snoc {p : UInt8 → Bool} {s : ByteArray} {k j : Nat} (hkj : k ≤ j) (h : j < s.size) (hp : ((s.data.toList.drop k).take (j - k)).all p = true) (h1 : p s[j] = true) : ((s.data.toList.drop k).take (j + 1 - k)).all p = true := by
  have e : j + 1 - k = (j - k) + 1 := by omega
  rw [e, List.take_succ_eq_append_getElem (by rw [List.length_drop, ← Lib.size_eq]; omega), List.all_append, hp]
  have e2 : (s.data.toList.drop k)[j - k]'(by rw [List.length_drop, ← Lib.size_eq]; omega) = s[j] := by
    rw [List.getElem_drop]
    have : k + (j - k) = j := by omega
    simp only [this]; rfl
  simp [e2, h1]
theorem tokN_lead {s : ByteArray} (h : 0 < s.size) (h1 : 1 < runL dg s.data.toList) (h2 : s[0].toNat = 48) : tokN s.data.toList = (0, 0) := by
  have : s[0] = 48 := UInt8.toNat_inj.1 (by rw [h2]; rfl)
  unfold tokN; rw [if_pos ⟨h1, by rw [head_eq s h, this]⟩]
theorem tokN_int {s : ByteArray} (h : 0 < s.size) (h1 : ¬ (1 < runL dg s.data.toList ∧ s[0].toNat = 48)) (h2 : partL s.data.toList (runL dg s.data.toList) = 0) : tokN s.data.toList = (3, runL dg s.data.toList) := by
  unfold tokN
  rw [if_neg (fun c => h1 ⟨c.1, by have := c.2; rw [head_eq s h] at this; simp only [Option.some.injEq] at this; rw [this]; rfl⟩), h2, if_neg (Nat.lt_irrefl _)]
theorem tokN_dec {s : ByteArray} {m : Nat} (h : 0 < s.size) (h1 : ¬ (1 < runL dg s.data.toList ∧ s[0].toNat = 48)) (h2 : partL s.data.toList (runL dg s.data.toList) = m) (hm : 0 < m) : tokN s.data.toList = (4, runL dg s.data.toList + 1 + m) := by
  unfold tokN
  rw [if_neg (fun c => h1 ⟨c.1, by have := c.2; rw [head_eq s h] at this; simp only [Option.some.injEq] at this; rw [this]; rfl⟩), h2, if_pos hm]
theorem numOk_tok {s : ByteArray} (h : 0 < s.size) (hd : dg s[0] = true) (dec : Bool) :
    numOk dec s.data.toList = (decide ((tokN s.data.toList).1 = if dec then 4 else 3) && decide ((tokN s.data.toList).2 = s.size)) := by
  have hp := runL_pos h hd
  have hle := runL_le dg s.data.toList
  rw [Lib.size_eq]
  show (decide (0 < runL dg s.data.toList) && !(decide (1 < runL dg s.data.toList) && decide (s.data.toList.head? = some 48)) && (if dec then decide (0 < partL s.data.toList (runL dg s.data.toList)) && decide (runL dg s.data.toList + 1 + partL s.data.toList (runL dg s.data.toList) = s.data.toList.length) else decide (partL s.data.toList (runL dg s.data.toList) = 0) && decide (runL dg s.data.toList = s.data.toList.length))) = _
  unfold tokN
  rw [decide_eq_true hp]
  by_cases c : 1 < runL dg s.data.toList ∧ s.data.toList.head? = some 48
  · rw [if_pos c, decide_eq_true c.1, decide_eq_true c.2]
    cases dec <;> simp
  · rw [if_neg c]
    have : (decide (1 < runL dg s.data.toList) && decide (s.data.toList.head? = some 48)) = false := by
      rw [Bool.eq_false_iff]; simpa using c
    rw [this]
    by_cases m : 0 < partL s.data.toList (runL dg s.data.toList)
    · rw [if_pos m]
      cases dec <;> simp [m] <;> omega
    · rw [if_neg m]
      have m0 : partL s.data.toList (runL dg s.data.toList) = 0 := by omega
      cases dec <;> simp [m0]
end Go.Proofs.YtdngpnlbhadbpaaDoor
