import Derived.Test.YtdngpnlbhadbpaaDoorTrRp
namespace Go.Proofs.YtdngpnlbhadbpaaDoor
open Go.ChangeShapes Go.WideShapes Go.ChangeAt Go.RowKit
theorem index_ne {b : UInt8} {l : List UInt8} (h : b ≠ 34) {i : Nat} (hi : Lib.index l [34] = i) : Lib.index (b :: l) [34] = (i + 1 : Nat) := by
  have hp : ([34] : List UInt8).isPrefixOf (b :: l) = false := by simp [List.isPrefixOf]; exact fun e => h e.symm
  have hm : (Lib.index l [34] == -1) = false := by rw [beq_eq_false_iff_ne]; omega
  rw [Lib.index, hp, hm, hi]
  simp
theorem replaceK_dbl : ∀ s : List UInt8, Lib.replaceK [34] [34, 34] (Lib.count s [34]) s = dbl s
  | [] => rfl
  | b :: l => by
    by_cases hb : b = 34
    · subst hb
      have h0 : Lib.index (34 :: l) [34] = (0 : Nat) := by simp [Lib.index, List.isPrefixOf]
      rw [Lib.count_cons_eq, Nat.add_comm, Lib.replaceK_hit _ _ _ _ 0 h0]
      have := replaceK_dbl l
      simp [this, dbl]
    · have ih := replaceK_dbl l
      rw [Lib.count_cons_ne _ _ _ hb]
      rw [show dbl (b :: l) = b :: dbl l by simp [dbl, hb], ← ih]
      cases hc : Lib.count l [34] with
      | zero => rfl
      | succ k =>
        obtain ⟨i, hi⟩ := Lib.index_of_count (s := l) (old := [34]) (by omega)
        rw [Lib.replaceK_hit _ _ _ _ (i + 1) (index_ne hb hi), Lib.replaceK_hit _ _ _ _ i hi]
        simp
theorem replaceAll_dbl (s : List UInt8) : Lib.replaceAll s [34] [34, 34] = dbl s := by
  have e : (([34] : List UInt8) == [34, 34]) = false := by decide
  have h : Lib.replaceNum s [34] (-1) = Lib.count s [34] := by simp [Lib.replaceNum]
  rw [Lib.replaceAll, Lib.replace, e, h]
  exact replaceK_dbl s
theorem strOf_quote (l : List UInt8) : (⟨#[34]⟩ ++ strOf l ++ ⟨#[34]⟩ : ByteArray) = strOf (34 :: (l ++ [34])) := by
  apply ba_eq
  simp [strOf]
set_option maxRecDepth 100000 in
set_option maxHeartbeats 2000000 in
theorem tokenText_6 (s : ByteArray) (k0 q0 : Int) (m : Int) (w : World) (hs : s.size ≤ 20000) (hm : w.cell? ⟨0, 0, none⟩ = some (.int .i64 m)) (hg : 0 < w.heap.size) :
    Calls Tryd.prog 40 #[.agg #[.int .i64 6, .string s, .int .i64 k0, .int .i64 q0]] w fun e w' => e = .returned (.string (strOf (tokT 6 s.data.toList))) ∧ Below w.heap.size w w' := by
  have hcb : Lib.countB s ⟨#[34]⟩ * 1 ≤ s.size := Lib.countB_mul_le ⟨#[34]⟩ (by decide) s.size s (Nat.le_refl _)
  have HD : Hid ((⟨(Lib.replaceAll s.data.toList [34] [34, 34]).toArray⟩ : ByteArray) = strOf (dbl s.data.toList)) := by unfold Hid; rw [replaceAll_dbl]; rfl
  have hdl : (strOf (dbl s.data.toList)).size ≤ 40000 := by
    have := dbl_len s.data.toList
    rw [Lib.size_eq, strOf_toList]; rw [← Lib.size_eq] at this; omega
  have HM : Hid ((w.alloc (.cells #[.int .i64 6, .string s, .int .i64 k0, .int .i64 q0] 31)).cell? ⟨0, 0, none⟩ = some (.int .i64 m)) := ((below_alloc w _).cell (p := ⟨0, 0, none⟩) hg).trans hm
  have HL : Hid (s.size + Lib.countB s ⟨#[34]⟩ * 2 ≤ 140737488355328) := by show s.size + Lib.countB s ⟨#[34]⟩ * 2 ≤ 140737488355328; omega
  have HQ := hidG (strOf_quote (dbl s.data.toList))
  obtain ⟨D, hD⟩ : ∃ D, strOf (dbl s.data.toList) = D := ⟨_, rfl⟩
  rw [hD] at HD hdl HQ
  have HT : Hid (strOf (tokT 6 s.data.toList) = ⟨#[34]⟩ ++ D ++ ⟨#[34]⟩) := by unfold Hid; rw [HQ.out]; rfl
  clear hm hcb hD
  go_enter Tryd.func40, Tryd.ntmps40
  go_wp2_with (go_at_call 60; refine (replaceAll_any s ⟨#[34]⟩ ⟨#[34, 34]⟩ m _ (by omega) HM.out (by decide) HL.out).mono ?_; rintro e w1 ⟨rfl, hb1⟩; rw [show (⟨#[34]⟩ : ByteArray).data.toList = [34] from rfl, show (⟨#[34, 34]⟩ : ByteArray).data.toList = [34, 34] from rfl, HD.out]; have HB1 := hidG hb1; clear hb1)
  go_ret
  exact ⟨by rw [HT.out]; rfl, (below_alloc w _).trans (HB1.out.mono (by simp))⟩
theorem tokenText_any (k : Int) (s : ByteArray) (k0 q0 : Int) (m : Int) (w : World) (hs : s.size ≤ 20000) (hm : w.cell? ⟨0, 0, none⟩ = some (.int .i64 m)) (hg : 0 < w.heap.size) :
    Calls Tryd.prog 40 #[.agg #[.int .i64 k, .string s, .int .i64 k0, .int .i64 q0]] w fun e w' => e = .returned (.string (strOf (tokT k s.data.toList))) ∧ Below w.heap.size w w' := by
  by_cases h1 : k = 1
  · subst h1; exact tokenText_1 s k0 q0 w hs
  by_cases h2 : k = 2
  · subst h2; exact tokenText_2 s k0 q0 w hs
  by_cases h3 : k = 3
  · subst h3; exact tokenText_3 s k0 q0 w hs
  by_cases h4 : k = 4
  · subst h4; exact tokenText_4 s k0 q0 w hs
  by_cases h5 : k = 5
  · subst h5; exact tokenText_5 s k0 q0 w hs
  by_cases h6 : k = 6
  · subst h6; exact tokenText_6 s k0 q0 m w hs hm hg
  by_cases h7 : k = 7
  · subst h7; exact tokenText_7 s k0 q0 w hs
  exact tokenText_other k s k0 q0 w (by omega)
theorem tokT_len (k : Int) (t : List UInt8) : (tokT k t).length ≤ 2 * t.length + 2 := by
  have := dbl_len t
  unfold tokT
  repeat' split
  all_goals simp
  all_goals omega
theorem scan_any (kind : Int) (s T : ByteArray) (w : World) (hs : s.size ≤ 20000) (hT : T.data.toList = tokT kind s.data.toList) (h0 : 0 < T.size) : ScanR kind s T T[0] w := by
  have hl : T.size ≤ 50000 := by
    have := tokT_len kind s.data.toList
    rw [← hT, ← Lib.size_eq, ← Lib.size_eq] at this
    omega
  by_cases h1 : kind = 1
  · subst h1; rw [show T[0] = 40 from at_eq h0 (by rw [hT]; rfl)]; exact scan_1 s T w hT
  by_cases h2 : kind = 2
  · subst h2; exact scan_2 s T w hs h0 hT
  by_cases h3 : kind = 3
  · subst h3
    have e : T = s := ba_eq hT
    subst e; exact scan_num 3 T w (.inl rfl) hs h0
  by_cases h4 : kind = 4
  · subst h4
    have e : T = s := ba_eq hT
    subst e; exact scan_num 4 T w (.inr rfl) hs h0
  by_cases h5 : kind = 5
  · subst h5; rw [show T[0] = 35 from at_eq h0 (by rw [hT]; rfl)]; exact scan_5 s T w hs hT
  by_cases h6 : kind = 6
  · subst h6; rw [show T[0] = 34 from at_eq h0 (by rw [hT]; rfl)]; exact scan_6 s T w hl hT
  by_cases h7 : kind = 7
  · subst h7; rw [show T[0] = 58 from at_eq h0 (by rw [hT]; rfl)]; exact scan_7 s T w hs hT
  rw [Lib.size_eq, hT, tokT_other (by omega)] at h0
  exact absurd h0 (by simp)
theorem wordOk_none {kind : Int} {t : List UInt8} (h : tokT kind t = []) : wordOk kind t = false := by
  by_cases h1 : kind = 1
  · subst h1; simp [tokT] at h
  by_cases h2 : kind = 2
  · subst h2
    have h' : (if plainN t then t else 124 :: (t ++ [124])) = [] := h
    by_cases hp : plainN t = true
    · rw [if_pos hp] at h'; rw [h'] at hp; simp [plainN] at hp
    · rw [if_neg hp] at h'; simp at h'
  by_cases h3 : kind = 3
  · subst h3; rw [show t = [] from h]; rfl
  by_cases h4 : kind = 4
  · subst h4; rw [show t = [] from h]; rfl
  by_cases h5 : kind = 5
  · subst h5; simp [tokT] at h
  by_cases h6 : kind = 6
  · subst h6; simp [tokT] at h
  by_cases h7 : kind = 7
  · subst h7; simp [tokT] at h
  unfold wordOk
  rw [if_neg h1, if_neg h2, if_neg h3, if_neg h4, if_neg h5, if_neg h6, if_neg h7]
set_option maxRecDepth 100000 in
set_option maxHeartbeats 2000000 in
theorem isRead_x (nd : Nd) (q : Int) (m : Int) (w : World) (hs : nd.text.size ≤ 20000) (hm : w.cell? ⟨0, 0, none⟩ = some (.int .i64 m)) (hg : 0 < w.heap.size)
    (hk : 0 ≤ nd.kids) (hk1 : nd.kind = 1 ∨ nd.kids = 0) (T : ByteArray) (hT : strOf (tokT nd.kind nd.t) = T) (h0 : 0 < T.size) :
    Calls Tryd.prog 37 #[.agg #[.int .i64 nd.kind, .string nd.text, .int .i64 nd.kids, .int .i64 q]] w fun e w' => e = .returned (.bool (nodeOk nd)) ∧ Below w.heap.size w w' := by
  have hl : T.size ≤ 50000 := by
    have := tokT_len nd.kind nd.t
    rw [← strOf_toList (tokT nd.kind nd.t), hT, ← Lib.size_eq] at this
    have e : nd.t.length = nd.text.size := by rw [Lib.size_eq]; rfl
    omega
  have hTl : T.data.toList = tokT nd.kind nd.text.data.toList := by rw [← hT, strOf_toList]; rfl
  have HS := hidG (fun w => scan_any nd.kind nd.text T w hs hTl h0)
  have HT : Hid (strOf (tokT nd.kind nd.text.data.toList) = T) := hT
  have HM : Hid ((w.alloc (.cells #[.int .i64 nd.kind, .string nd.text, .int .i64 nd.kids, .int .i64 q] 31)).cell? ⟨0, 0, none⟩ = some (.int .i64 m)) := ((below_alloc w _).cell (p := ⟨0, 0, none⟩) hg).trans hm
  have z1 : decide (nd.kids < 0) = false := by rw [decide_eq_false_iff_not]; omega
  have HN : Hid (nodeOk nd = wordOk nd.kind nd.text.data.toList) := by
    unfold Hid nodeOk
    rw [decide_eq_true hk, Bool.true_and]
    have : (decide (nd.kind = 1) || decide (nd.kids = 0)) = true := by rcases hk1 with h | h <;> simp [h]
    rw [this]; rfl
  have z4 : T.toList.isEmpty = false := by rw [Lib.toList_data, List.isEmpty_eq_false_iff]; intro e; rw [Lib.size_eq, e] at h0; simp at h0
  have HY := hidG hk1
  clear hm hT hTl hk1
  rcases Int.lt_or_eq_of_le hk with hk0 | hk0
  · have z2 : decide (0 < nd.kids) = true := by rw [decide_eq_true_iff]; exact hk0
    have z3 : (nd.kind != 1) = false := by
      rcases HY.out with h | h
      · rw [h]; rfl
      · omega
    go_enter Tryd.func37, Tryd.ntmps37
    go_wp2_with (first
      | (go_at_call 40; refine (tokenText_any nd.kind nd.text nd.kids q m _ hs HM.out (by simp)).mono ?_; rintro e w1 ⟨rfl, hb1⟩; rw [HT.out]; have hx1 := (bx_new w [.int .i64 nd.kind, .string nd.text, .int .i64 nd.kids, .int .i64 q] 31).below (N := w.heap.size + 1) (by omega) (hb1.mono (by simp)); have HX1 := hidG hx1; have HB1 : Hid (Below w.heap.size w w1) := (below_alloc _ _).trans (hb1.mono (by simp)); have hs1 : w.heap.size + 1 ≤ w1.heap.size := (by have := hb1.size; simpa using this); clear hb1 hx1)
      | (go_at_call 20; refine (tokenBegun_any T[0] _).mono ?_; rintro e w' ⟨rfl, rfl⟩)
      | (go_at_call 23; refine (HS.out _).mono ?_; rintro e w2 ⟨⟨k2, t2, n2, hk2, he⟩, hb2⟩; unfold resN at he; subst he; have HK2 := hidG hk2; clear hk2; have hx2 := HX1.out.below (N := w.heap.size + 1) (by omega) (hb2.mono hs1); have HB2 : Hid (Below w.heap.size w w2) := HB1.out.trans (hb2.mono (by omega)); have hs2 : w.heap.size < w2.heap.size := (by have := hb2.size; omega); obtain ⟨c0, c1, c2, c3⟩ := hx2.c4; clear hb2 hx2))
    · rename_i hn hk2
      go_ret
      refine ⟨ret_bool ?_, HB2.out.alloc (by omega) _⟩
      rw [HN.out, Bool.eq_iff_iff, Lib.bytes_beq_iff]
      exact ⟨fun h => HK2.out.1 ⟨by omega, hk2, h⟩, fun h => (HK2.out.2 h).2.2⟩
    · rename_i hn hk2
      go_ret
      refine ⟨ret_bool ?_, HB2.out.alloc (by omega) _⟩
      rw [HN.out]
      cases hw : wordOk nd.kind nd.text.data.toList with
      | false => rfl
      | true => exact absurd (HK2.out.2 hw).2.1 hk2
    · rename_i hn
      go_ret
      refine ⟨ret_bool ?_, HB2.out.alloc (by omega) _⟩
      rw [HN.out]
      cases hw : wordOk nd.kind nd.text.data.toList with
      | false => rfl
      | true => exact absurd (HK2.out.2 hw).1 (by omega)
  · have z2 : decide (0 < nd.kids) = false := by rw [decide_eq_false_iff_not]; omega
    clear hk0
    go_enter Tryd.func37, Tryd.ntmps37
    go_wp2_with (first
      | (go_at_call 40; refine (tokenText_any nd.kind nd.text nd.kids q m _ hs HM.out (by simp)).mono ?_; rintro e w1 ⟨rfl, hb1⟩; rw [HT.out]; have hx1 := (bx_new w [.int .i64 nd.kind, .string nd.text, .int .i64 nd.kids, .int .i64 q] 31).below (N := w.heap.size + 1) (by omega) (hb1.mono (by simp)); have HX1 := hidG hx1; have HB1 : Hid (Below w.heap.size w w1) := (below_alloc _ _).trans (hb1.mono (by simp)); have hs1 : w.heap.size + 1 ≤ w1.heap.size := (by have := hb1.size; simpa using this); clear hb1 hx1)
      | (go_at_call 20; refine (tokenBegun_any T[0] _).mono ?_; rintro e w' ⟨rfl, rfl⟩)
      | (go_at_call 23; refine (HS.out _).mono ?_; rintro e w2 ⟨⟨k2, t2, n2, hk2, he⟩, hb2⟩; unfold resN at he; subst he; have HK2 := hidG hk2; clear hk2; have hx2 := HX1.out.below (N := w.heap.size + 1) (by omega) (hb2.mono hs1); have HB2 : Hid (Below w.heap.size w w2) := HB1.out.trans (hb2.mono (by omega)); have hs2 : w.heap.size < w2.heap.size := (by have := hb2.size; omega); obtain ⟨c0, c1, c2, c3⟩ := hx2.c4; clear hb2 hx2))
    · rename_i hn hk2
      go_ret
      refine ⟨ret_bool ?_, HB2.out.alloc (by omega) _⟩
      rw [HN.out, Bool.eq_iff_iff, Lib.bytes_beq_iff]
      exact ⟨fun h => HK2.out.1 ⟨by omega, hk2, h⟩, fun h => (HK2.out.2 h).2.2⟩
    · rename_i hn hk2
      go_ret
      refine ⟨ret_bool ?_, HB2.out.alloc (by omega) _⟩
      rw [HN.out]
      cases hw : wordOk nd.kind nd.text.data.toList with
      | false => rfl
      | true => exact absurd (HK2.out.2 hw).2.1 hk2
    · rename_i hn
      go_ret
      refine ⟨ret_bool ?_, HB2.out.alloc (by omega) _⟩
      rw [HN.out]
      cases hw : wordOk nd.kind nd.text.data.toList with
      | false => rfl
      | true => exact absurd (HK2.out.2 hw).1 (by omega)
set_option maxRecDepth 100000 in
set_option maxHeartbeats 2000000 in
theorem isRead_kids (nd : Nd) (q : Int) (w : World) (hk : nd.kids < 0 ∨ (0 < nd.kids ∧ nd.kind ≠ 1)) :
    Calls Tryd.prog 37 #[.agg #[.int .i64 nd.kind, .string nd.text, .int .i64 nd.kids, .int .i64 q]] w fun e w' => e = .returned (.bool (nodeOk nd)) ∧ Below w.heap.size w w' := by
  have HN : Hid (nodeOk nd = false) := by
    rcases hk with h | h
    · exact nodeOk_neg h
    · exact nodeOk_leaf h.2 (by omega)
  rcases hk with hk | ⟨hk, h1⟩
  · have z1 : decide (nd.kids < 0) = true := by rw [decide_eq_true_iff]; exact hk
    clear hk
    go_enter Tryd.func37, Tryd.ntmps37
    go_wp2_with fail
    go_ret
    exact ⟨ret_bool HN.out.symm, below_alloc _ _⟩
  · have z1 : decide (nd.kids < 0) = false := by rw [decide_eq_false_iff_not]; omega
    have z2 : decide (0 < nd.kids) = true := by rw [decide_eq_true_iff]; exact hk
    have z3 : (nd.kind != 1) = true := by rw [bne_iff_ne]; exact h1
    clear hk h1
    go_enter Tryd.func37, Tryd.ntmps37
    go_wp2_with fail
    go_ret
    exact ⟨ret_bool HN.out.symm, below_alloc _ _⟩
set_option maxRecDepth 100000 in
set_option maxHeartbeats 2000000 in
theorem isRead_none (nd : Nd) (q : Int) (m : Int) (w : World) (hs : nd.text.size ≤ 20000) (hm : w.cell? ⟨0, 0, none⟩ = some (.int .i64 m)) (hg : 0 < w.heap.size)
    (_hk : 0 ≤ nd.kids) (hk1 : nd.kind = 1 ∨ nd.kids = 0) (hT : tokT nd.kind nd.t = []) :
    Calls Tryd.prog 37 #[.agg #[.int .i64 nd.kind, .string nd.text, .int .i64 nd.kids, .int .i64 q]] w fun e w' => e = .returned (.bool (nodeOk nd)) ∧ Below w.heap.size w w' := by
  have HN : Hid (nodeOk nd = false) := nodeOk_word (wordOk_none hT)
  have hk0 : nd.kids = 0 := by
    rcases hk1 with h | h
    · rw [h] at hT; simp [tokT] at hT
    · exact h
  have HT : Hid (strOf (tokT nd.kind nd.text.data.toList) = ⟨#[]⟩) := by
    have : tokT nd.kind nd.text.data.toList = [] := hT
    unfold Hid; rw [this]; rfl
  have HM : Hid ((w.alloc (.cells #[.int .i64 nd.kind, .string nd.text, .int .i64 nd.kids, .int .i64 q] 31)).cell? ⟨0, 0, none⟩ = some (.int .i64 m)) := ((below_alloc w _).cell (p := ⟨0, 0, none⟩) hg).trans hm
  have z1 : decide (nd.kids < 0) = false := by rw [decide_eq_false_iff_not]; omega
  have z2 : decide (0 < nd.kids) = false := by rw [decide_eq_false_iff_not]; omega
  clear hm hT hk1 hk0 _hk
  go_enter Tryd.func37, Tryd.ntmps37
  go_wp2_with (go_at_call 40; refine (tokenText_any nd.kind nd.text nd.kids q m _ hs HM.out (by simp)).mono ?_; rintro e w1 ⟨rfl, hb1⟩; rw [HT.out]; have HB1 : Hid (Below w.heap.size w w1) := (below_alloc _ _).trans (hb1.mono (by simp)); clear hb1)
  go_ret
  exact ⟨ret_bool HN.out.symm, HB1.out⟩
theorem isRead_any (nd : Nd) (q : Int) (m : Int) (w : World) (hs : nd.text.size ≤ 20000) (hm : w.cell? ⟨0, 0, none⟩ = some (.int .i64 m)) (hg : 0 < w.heap.size) :
    Calls Tryd.prog 37 #[.agg #[.int .i64 nd.kind, .string nd.text, .int .i64 nd.kids, .int .i64 q]] w fun e w' => e = .returned (.bool (nodeOk nd)) ∧ Below w.heap.size w w' := by
  by_cases hk : nd.kids < 0
  · exact isRead_kids nd q w (.inl hk)
  by_cases hk1 : nd.kind = 1 ∨ nd.kids = 0
  · by_cases hT : tokT nd.kind nd.t = []
    · exact isRead_none nd q m w hs hm hg (by omega) hk1 hT
    · refine isRead_x nd q m w hs hm hg (by omega) hk1 _ rfl ?_
      rw [Lib.size_eq, strOf_toList]
      exact List.length_pos_iff.2 hT
  · exact isRead_kids nd q w (.inr ⟨by omega, fun e => hk1 (.inl e)⟩)
end Go.Proofs.YtdngpnlbhadbpaaDoor
