import Derived.Test.YtdngpnlbhadbpaaTrR
namespace Go.Proofs.Ytdngpnlbhadbpaa
open Go.ChangeShapes Go.WideShapes Go.ChangeAt Go.RowKit
theorem head_eq (d : ByteArray) (h : 0 < d.size) : d.data.toList.head? = some d[0] := by
  obtain ⟨⟨l⟩⟩ := d
  cases l with
  | nil => simp [ByteArray.size] at h
  | cons a l => rfl
theorem toList_ne (d : ByteArray) (h : 0 < d.size) : d.toList.isEmpty = false := by
  rw [ByteArray.toList_eq]
  have := Lib.size_eq d
  cases hl : d.data.toList with
  | nil => exfalso; rw [hl] at this; simp only [List.length_nil] at this; omega
  | cons _ _ => rfl
theorem data_nil {d : ByteArray} (h : d.size = 0) : d.data.toList = [] := List.eq_nil_of_length_eq_zero (by rw [← Lib.size_eq]; exact h)
theorem toList_e (d : ByteArray) (h : d.size = 0) : d.toList.isEmpty = true := by
  rw [ByteArray.toList_eq, data_nil h]; rfl
theorem data_ne {d : ByteArray} (h : 0 < d.size) : d.data.toList.isEmpty = false := by rw [← ByteArray.toList_eq]; exact toList_ne d h
theorem plainN_nil {s : ByteArray} (h : s.size = 0) : plainN s.data.toList = false := by rw [data_nil h]; rfl
theorem plainN_dg {s : ByteArray} (h : 0 < s.size) (h1 : dg s[0] = true) : plainN s.data.toList = false := by
  unfold plainN; rw [head_eq s h]; simp [h1]
theorem plainN_rest {s : ByteArray} (h : 0 < s.size) (h1 : dg s[0] = false) : plainN s.data.toList = s.data.toList.all nameB := by
  unfold plainN; rw [head_eq s h, data_ne h]; simp [h1]
def strOf (l : List UInt8) : ByteArray := ⟨l.toArray⟩
theorem strOf_toList (l : List UInt8) : (strOf l).data.toList = l := by simp [strOf]
theorem strOf_data (s : ByteArray) : strOf s.data.toList = s := by simp [strOf]
theorem strOf_bars (s : ByteArray) : (⟨#[124]⟩ ++ s ++ ⟨#[124]⟩ : ByteArray) = strOf (124 :: (s.data.toList ++ [124])) := by
  apply ByteArray.ext
  apply Array.ext'
  simp [strOf]
theorem tokT_bars {s : ByteArray} (h : plainN s.data.toList = false) : Ending.returned (.string (⟨#[124]⟩ ++ s ++ ⟨#[124]⟩)) = .returned (.string (strOf (tokT 2 s.data.toList))) := by
  rw [strOf_bars]; simp [tokT, h]
theorem tokT_plain {s : ByteArray} (h : plainN s.data.toList = true) : Ending.returned (.string s) = .returned (.string (strOf (tokT 2 s.data.toList))) := by
  have : tokT 2 s.data.toList = s.data.toList := by simp [tokT, h]
  rw [this, strOf_data]
end Go.Proofs.Ytdngpnlbhadbpaa
