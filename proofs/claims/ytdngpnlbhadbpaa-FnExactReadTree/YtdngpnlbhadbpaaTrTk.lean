import Derived.Test.YtdngpnlbhadbpaaTrRp
namespace Go.Proofs.Ytdngpnlbhadbpaa
open Go.ChangeShapes Go.WideShapes Go.ChangeAt Go.RowKit
theorem index_ne {b : UInt8} {l : List UInt8} (h : b ≠ 34) {i : Nat} (hi : Lib.index l [34] = i) : Lib.index (b :: l) [34] = (i + 1 : Nat) := by
  have hp : ([34] : List UInt8).isPrefixOf (b :: l) = false := by simp [List.isPrefixOf]; exact fun e => h e.symm
  have hm : (Lib.index l [34] == -1) = false := by rw [beq_eq_false_iff_ne]; omega
  rw [Lib.index, hp, hm, hi]
  simp
theorem replaceK_dbl : ∀ s : List UInt8, Lib.replaceK [34] [34, 34] (Lib.count s [34]) s = dbl s
  | [] => rfl
  | b :: l => by
    by_cases hb : b = 34
    · subst hb
      have h0 : Lib.index (34 :: l) [34] = (0 : Nat) := by simp [Lib.index, List.isPrefixOf]
      rw [Lib.count_cons_eq, Nat.add_comm, Lib.replaceK_hit _ _ _ _ 0 h0]
      have := replaceK_dbl l
      simp [this, dbl]
    · have ih := replaceK_dbl l
      rw [Lib.count_cons_ne _ _ _ hb]
      rw [show dbl (b :: l) = b :: dbl l by simp [dbl, hb], ← ih]
      cases hc : Lib.count l [34] with
      | zero => rfl
      | succ k =>
        obtain ⟨i, hi⟩ := Lib.index_of_count (s := l) (old := [34]) (by omega)
        rw [Lib.replaceK_hit _ _ _ _ (i + 1) (index_ne hb hi), Lib.replaceK_hit _ _ _ _ i hi]
        simp
theorem replaceAll_dbl (s : List UInt8) : Lib.replaceAll s [34] [34, 34] = dbl s := by
  have e : (([34] : List UInt8) == [34, 34]) = false := by decide
  have h : Lib.replaceNum s [34] (-1) = Lib.count s [34] := by simp [Lib.replaceNum]
  rw [Lib.replaceAll, Lib.replace, e, h]
  exact replaceK_dbl s
theorem strOf_quote (l : List UInt8) : (⟨#[34]⟩ ++ strOf l ++ ⟨#[34]⟩ : ByteArray) = strOf (34 :: (l ++ [34])) := by
  apply ba_eq
  simp [strOf]
theorem tokT_len (k : Int) (t : List UInt8) : (tokT k t).length ≤ 2 * t.length + 2 := by
  have := dbl_len t
  unfold tokT
  repeat' split
  all_goals simp
  all_goals omega
theorem scan_any (kind : Int) (s T : ByteArray) (w : World) (hs : s.size ≤ 20000) (hT : T.data.toList = tokT kind s.data.toList) (h0 : 0 < T.size) : ScanR kind s T T[0] w := by
  have hl : T.size ≤ 50000 := by
    have := tokT_len kind s.data.toList
    rw [← hT, ← Lib.size_eq, ← Lib.size_eq] at this
    omega
  by_cases h1 : kind = 1
  · subst h1; rw [show T[0] = 40 from at_eq h0 (by rw [hT]; rfl)]; exact scan_1 s T w hT
  by_cases h2 : kind = 2
  · subst h2; exact scan_2 s T w hs h0 hT
  by_cases h3 : kind = 3
  · subst h3
    have e : T = s := ba_eq hT
    subst e; exact scan_num 3 T w (.inl rfl) hs h0
  by_cases h4 : kind = 4
  · subst h4
    have e : T = s := ba_eq hT
    subst e; exact scan_num 4 T w (.inr rfl) hs h0
  by_cases h5 : kind = 5
  · subst h5; rw [show T[0] = 35 from at_eq h0 (by rw [hT]; rfl)]; exact scan_5 s T w hs hT
  by_cases h6 : kind = 6
  · subst h6; rw [show T[0] = 34 from at_eq h0 (by rw [hT]; rfl)]; exact scan_6 s T w hl hT
  by_cases h7 : kind = 7
  · subst h7; rw [show T[0] = 58 from at_eq h0 (by rw [hT]; rfl)]; exact scan_7 s T w hs hT
  rw [Lib.size_eq, hT, tokT_other (by omega)] at h0
  exact absurd h0 (by simp)
theorem wordOk_none {kind : Int} {t : List UInt8} (h : tokT kind t = []) : wordOk kind t = false := by
  by_cases h1 : kind = 1
  · subst h1; simp [tokT] at h
  by_cases h2 : kind = 2
  · subst h2
    have h' : (if plainN t then t else 124 :: (t ++ [124])) = [] := h
    by_cases hp : plainN t = true
    · rw [if_pos hp] at h'; rw [h'] at hp; simp [plainN] at hp
    · rw [if_neg hp] at h'; simp at h'
  by_cases h3 : kind = 3
  · subst h3; rw [show t = [] from h]; rfl
  by_cases h4 : kind = 4
  · subst h4; rw [show t = [] from h]; rfl
  by_cases h5 : kind = 5
  · subst h5; simp [tokT] at h
  by_cases h6 : kind = 6
  · subst h6; simp [tokT] at h
  by_cases h7 : kind = 7
  · subst h7; simp [tokT] at h
  unfold wordOk
  rw [if_neg h1, if_neg h2, if_neg h3, if_neg h4, if_neg h5, if_neg h6, if_neg h7]
end Go.Proofs.Ytdngpnlbhadbpaa
