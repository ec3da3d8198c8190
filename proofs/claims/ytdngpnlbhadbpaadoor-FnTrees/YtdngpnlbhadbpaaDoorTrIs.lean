import Derived.Test.YtdngpnlbhadbpaaDoorTrSw
namespace Go.Proofs.YtdngpnlbhadbpaaDoor
open Go.ChangeShapes Go.WideShapes Go.ChangeAt Go.RowKit
theorem ext_list (T : ByteArray) (a b : Nat) : (T.extract a b).data.toList = (T.data.toList.take b).drop a := by
  rw [ByteArray.data_extract, Array.toList_extract, List.extract_eq_drop_take', List.drop_take]
theorem ba_eq {a b : ByteArray} (h : a.data.toList = b.data.toList) : a = b := by
  rw [← strOf_data a, ← strOf_data b, h]
theorem ext_all (s : ByteArray) : s.extract 0 s.size = s := by
  apply ba_eq
  rw [ext_list, List.drop_zero, List.take_of_length_le (by rw [← Lib.size_eq]; exact Nat.le_refl _)]
/-- A text that ends in another. -/
theorem ext_tail {T U : ByteArray} {p : List UInt8} {a : Nat} (h : T.data.toList = p ++ U.data.toList) (ha : p.length = a) : T.extract a (U.size + a) = U ∧ T.size = U.size + a := by
  have hs : T.size = U.size + a := by rw [Lib.size_eq, h, List.length_append, ← Lib.size_eq, ha]; omega
  refine ⟨ba_eq ?_, hs⟩
  rw [ext_list, h, List.take_of_length_le (by rw [List.length_append, ha, ← Lib.size_eq]; omega), ← ha, List.drop_left]
/-- A text's part. -/
theorem ext_mid {T : ByteArray} {p m q : List UInt8} {a b : Nat} (h : T.data.toList = p ++ m ++ q) (ha : p.length = a) (hb : a + m.length = b) : T.extract a b = strOf m := by
  apply ba_eq
  rw [ext_list, h, strOf_toList, ← hb, ← ha, ← List.length_append, List.take_left, List.drop_left]
theorem at_list {T : ByteArray} {i : Nat} (h : i < T.size) : T.data.toList[i]? = some T[i] := by
  rw [List.getElem?_eq_getElem (by rw [← Lib.size_eq]; exact h)]; rfl
theorem at_eq {T : ByteArray} {i : Nat} {c : UInt8} (h : i < T.size) (hc : T.data.toList[i]? = some c) : T[i] = c := by
  rw [at_list h] at hc; exact Option.some.inj hc
theorem tokB_all : ∀ n : Fin 256, (nameB (UInt8.ofNat n.val) = true → dg (UInt8.ofNat n.val) = false → tokB (UInt8.ofNat n.val) = 10) ∧ (dg (UInt8.ofNat n.val) = true → tokB (UInt8.ofNat n.val) = 9) ∧ (tokB (UInt8.ofNat n.val) = 9 → dg (UInt8.ofNat n.val) = true) := by decide +kernel
theorem tokB_name {c : UInt8} (h : nameB c = true) (h2 : dg c = false) : tokB c = 10 := by
  have e : UInt8.ofNat c.toNat = c := by simp
  have := (tokB_all ⟨c.toNat, c.toNat_lt⟩).1
  simp only [e] at this
  exact this h h2
theorem tokB_dg {c : UInt8} (h : dg c = true) : tokB c = 9 := by
  have e : UInt8.ofNat c.toNat = c := by simp
  have := (tokB_all ⟨c.toNat, c.toNat_lt⟩).2.1
  simp only [e] at this
  exact this h
/-- What a scan of a node's own text must tell. -/
def Reads (kind : Int) (s T : ByteArray) (k : Int) (t : ByteArray) (n : Nat) : Prop := (n = T.size ∧ k = kind ∧ t = s) ↔ wordOk kind s.data.toList = true
def ScanR (kind : Int) (s T : ByteArray) (c : UInt8) (w : World) : Prop :=
  Calls Tryd.prog 23 #[.int .i64 (tokB c), .string T] w fun e w' => (∃ k t n, Reads kind s T k t n ∧ e = resN k t n) ∧ Below w.heap.size w w'
theorem scan_1 (s T : ByteArray) (w : World) (hT : T.data.toList = tokT 1 s.data.toList) : ScanR 1 s T 40 w := by
  have h1 : T.size = 1 := by rw [Lib.size_eq, hT]; rfl
  refine (scanNode_open T w).mono ?_
  rintro e w' ⟨rfl, hb⟩
  refine ⟨⟨1, ⟨#[]⟩, 1, ?_, rfl⟩, hb⟩
  unfold Reads
  rw [h1]
  have : wordOk 1 s.data.toList = s.data.toList.isEmpty := rfl
  rw [this, List.isEmpty_iff]
  constructor
  · rintro ⟨_, _, h⟩; rw [← h]
  · intro h; exact ⟨rfl, rfl, ba_eq (by rw [h])⟩
theorem scan_7 (s T : ByteArray) (w : World) (hs : s.size ≤ 20000) (hT : T.data.toList = tokT 7 s.data.toList) : ScanR 7 s T 58 w := by
  obtain ⟨hU, hTU⟩ := ext_tail (T := T) (U := s) (p := [58]) (a := 1) hT rfl
  have hw : wordOk 7 s.data.toList = (!s.data.toList.isEmpty && s.data.toList.all nameB) := rfl
  obtain ⟨r, hr⟩ : ∃ r, runL nameB s.data.toList = r := ⟨_, rfl⟩
  have hrl : r ≤ s.size := by rw [← hr, Lib.size_eq]; exact runL_le _ _
  by_cases h0 : 0 < r
  · refine (scanNode_key T s r w (by omega) (by omega) hU hr h0 hrl hTU).mono ?_
    rintro e w' ⟨rfl, hb⟩
    refine ⟨⟨7, T.extract 1 (1 + r), 1 + r, ?_, rfl⟩, hb⟩
    unfold Reads
    rw [hw]
    constructor
    · rintro ⟨h1, _, h3⟩
      have hr2 : r = s.size := by omega
      have h4 : s.data.toList.all nameB = true := runL_eq_len (by rw [hr, hr2, Lib.size_eq])
      rw [h4, Bool.and_true, Bool.not_eq_true', List.isEmpty_eq_false_iff]
      intro e; rw [e] at hr; simp [runL] at hr; omega
    · intro h
      rw [Bool.and_eq_true] at h
      have h4 := runL_all h.2
      have hr2 : r = s.size := by rw [← hr, h4, Lib.size_eq]
      refine ⟨by omega, rfl, ?_⟩
      rw [hr2, Nat.add_comm]; exact hU
  · have h0' : r = 0 := by omega
    refine (scanNode_key0 T s w (by omega) (by omega) hU (by rw [hr, h0']) hTU).mono ?_
    rintro e w' ⟨rfl, hb⟩
    refine ⟨⟨0, ⟨#[]⟩, 0, ?_, rfl⟩, hb⟩
    unfold Reads
    rw [hw]
    constructor
    · rintro ⟨_, h1, _⟩; omega
    · intro h
      rw [Bool.and_eq_true] at h
      have h4 := runL_all h.2
      rw [hr, h0'] at h4
      have : s.data.toList = [] := List.eq_nil_of_length_eq_zero h4.symm
      rw [this] at h; simp at h
theorem scan_5 (s T : ByteArray) (w : World) (hs : s.size ≤ 20000) (hT : T.data.toList = tokT 5 s.data.toList) : ScanR 5 s T 35 w := by
  obtain ⟨hU, hTU⟩ := ext_tail (T := T) (U := s) (p := [35, 98]) (a := 2) hT rfl
  have hw : wordOk 5 s.data.toList = (!s.data.toList.isEmpty && s.data.toList.all bitB) := rfl
  obtain ⟨r, hr⟩ : ∃ r, runL bitB s.data.toList = r := ⟨_, rfl⟩
  have hrl : r ≤ s.size := by rw [← hr, Lib.size_eq]; exact runL_le _ _
  have hc : T[1]'(by omega) = 98 := at_eq (by omega) (by rw [hT]; rfl)
  refine (scanNode_scanBits T (BitsP (s.extract 0 r) r) w (fun w => scanBits_b T s r w (by omega) hU hr hrl hTU hc)).mono ?_
  rintro e w' ⟨⟨k, t, n, hp, rfl⟩, hb⟩
  refine ⟨⟨k, t, n, ?_, rfl⟩, hb⟩
  unfold Reads
  rw [hw]
  rcases hp with ⟨h0, rfl, rfl, rfl⟩ | ⟨h0, rfl, rfl, rfl⟩
  · constructor
    · rintro ⟨_, h1, _⟩; omega
    · intro h
      rw [Bool.and_eq_true] at h
      have h4 := runL_all h.2
      rw [hr, h0] at h4
      have : s.data.toList = [] := List.eq_nil_of_length_eq_zero h4.symm
      rw [this] at h; simp at h
  · constructor
    · rintro ⟨h1, _, _⟩
      have hr2 : r = s.size := by omega
      have h4 : s.data.toList.all bitB = true := runL_eq_len (by rw [hr, hr2, Lib.size_eq])
      rw [h4, Bool.and_true, Bool.not_eq_true', List.isEmpty_eq_false_iff]
      intro e; rw [e] at hr; simp [runL] at hr; omega
    · intro h
      rw [Bool.and_eq_true] at h
      have h4 := runL_all h.2
      have hr2 : r = s.size := by rw [← hr, h4, Lib.size_eq]
      refine ⟨by omega, rfl, ?_⟩
      rw [hr2]
      exact ext_all s
theorem scan_6 (s T : ByteArray) (w : World) (hl : T.size ≤ 50000) (hT : T.data.toList = tokT 6 s.data.toList) : ScanR 6 s T 34 w := by
  have hT2 : T.data.toList = 34 :: (dbl s.data.toList ++ [34]) := hT
  have hsz : T.size = (dbl s.data.toList).length + 2 := by rw [Lib.size_eq, hT2]; simp
  have hd : T.data.toList.drop 1 = dbl s.data.toList ++ [34] := by rw [hT2]; rfl
  have hw : wordOk 6 s.data.toList = s.data.toList.all textB := rfl
  refine (scanNode_scanText T (Reads 6 s T) w (fun w => (scanText_any T w hl (by omega)).mono ?_))
  rintro e w' ⟨rfl, hb⟩
  rw [hd, scanT_dbl]
  by_cases ha : s.data.toList.all textB = true
  · rw [if_pos ha]
    refine ⟨⟨6, strOf s.data.toList, (dbl s.data.toList).length + 1 + 1, ?_, rfl⟩, hb⟩
    unfold Reads
    rw [hw, ha]
    exact ⟨fun _ => rfl, fun _ => ⟨by omega, rfl, strOf_data s⟩⟩
  · rw [if_neg ha]
    refine ⟨⟨0, ⟨#[]⟩, 0, ?_, rfl⟩, hb⟩
    unfold Reads
    rw [hw]
    exact ⟨fun h => absurd h.2.1 (by decide), fun h => absurd h ha⟩
theorem head_at {T : ByteArray} (h : 0 < T.size) : T.data.toList.head? = some T[0] := by
  rw [List.head?_eq_getElem?]; exact at_list h
theorem plainN_split {t : List UInt8} (h : plainN t = true) : t ≠ [] ∧ (∀ c, t.head? = some c → dg c = false) ∧ t.all nameB = true := by
  simp only [plainN, Bool.and_eq_true, Bool.not_eq_true', List.isEmpty_eq_false_iff] at h
  refine ⟨h.1.1, fun c hc => ?_, h.2⟩
  have := h.1.2
  rw [hc] at this
  simpa using this
theorem scan_2 (s T : ByteArray) (w : World) (hs : s.size ≤ 20000) (h0 : 0 < T.size) (hT : T.data.toList = tokT 2 s.data.toList) : ScanR 2 s T T[0] w := by
  have hw : wordOk 2 s.data.toList = s.data.toList.all barB := rfl
  have hT2 : T.data.toList = if plainN s.data.toList then s.data.toList else 124 :: (s.data.toList ++ [124]) := hT
  by_cases hp : plainN s.data.toList = true
  · rw [if_pos hp] at hT2
    have hTs : T = s := ba_eq hT2
    subst hTs
    obtain ⟨_, hd, hn⟩ := plainN_split hp
    have hd0 := hd _ (head_at h0)
    have hn0 : nameB T[0] = true := by
      rw [List.all_eq_true] at hn
      exact hn _ (List.mem_of_getElem? (at_list h0))
    have hr : runL nameB T.data.toList = T.size := by rw [runL_all hn, Lib.size_eq]
    unfold ScanR
    rw [tokB_name hn0 hd0]
    refine (scanNode_name T T.size w (by omega) hr (Nat.le_refl _)).mono ?_
    rintro e w' ⟨rfl, hb⟩
    refine ⟨⟨2, T.extract 0 T.size, T.size, ?_, rfl⟩, hb⟩
    unfold Reads
    rw [hw, all_imp (fun c h => nameB_bar h) hn]
    exact ⟨fun _ => rfl, fun _ => ⟨rfl, rfl, ext_all T⟩⟩
  · rw [if_neg hp] at hT2
    have hc0 : T[0] = 124 := at_eq h0 (by rw [hT2]; rfl)
    unfold ScanR
    rw [hc0, show tokB 124 = 6 by decide]
    obtain ⟨U, hUl⟩ : ∃ U : ByteArray, U.data.toList = s.data.toList ++ [124] := ⟨strOf _, strOf_toList _⟩
    obtain ⟨hU, hTU⟩ := ext_tail (T := T) (U := U) (p := [124]) (a := 1) (by rw [hT2, hUl]; rfl) rfl
    have hUs : U.size = s.size + 1 := by rw [Lib.size_eq, hUl, List.length_append, ← Lib.size_eq]; rfl
    refine scanNode_scanBarred T (Reads 2 s T) w (fun w => ?_)
    by_cases ha : s.data.toList.all barB = true
    · have hr : runL barB U.data.toList = s.size := by
        rw [hUl, runL_append ha, ← Lib.size_eq]; rfl
      have hcr : T[1 + s.size]'(by omega) = 124 := by
        refine at_eq (by omega) ?_
        rw [hT2, Nat.add_comm, List.getElem?_cons_succ, List.getElem?_append_right (by rw [← Lib.size_eq]; exact Nat.le_refl _), ← Lib.size_eq, Nat.sub_self]; rfl
      refine (scanBarred_yes T U s.size w (by omega) hU hr (by omega) hTU hcr).mono ?_
      rintro e w' ⟨rfl, hb⟩
      refine ⟨⟨2, T.extract 1 (1 + s.size), 1 + s.size + 1, ?_, rfl⟩, hb⟩
      unfold Reads
      rw [hw, ha]
      refine ⟨fun _ => rfl, fun _ => ⟨by omega, rfl, ?_⟩⟩
      rw [ext_mid (T := T) (p := [124]) (m := s.data.toList) (q := [124]) (a := 1) (b := 1 + s.size) hT2 rfl (by rw [Lib.size_eq]), strOf_data]
    · have ha' : s.data.toList.all barB = false := by simpa using ha
      obtain ⟨r, hr0⟩ : ∃ r, runL barB s.data.toList = r := ⟨_, rfl⟩
      have hrl : r < s.size := by
        have h1 := runL_le barB s.data.toList
        rw [hr0, ← Lib.size_eq] at h1
        rcases Nat.lt_or_eq_of_le h1 with h | h
        · exact h
        · exact absurd (runL_eq_len (by rw [hr0, h, Lib.size_eq])) ha
      have hr : runL barB U.data.toList = r := by rw [hUl, runL_append_lt ha', hr0]
      by_cases hcr : T[1 + r]'(by omega) = 124
      · refine (scanBarred_yes T U r w (by omega) hU hr (by omega) hTU hcr).mono ?_
        rintro e w' ⟨rfl, hb⟩
        refine ⟨⟨2, T.extract 1 (1 + r), 1 + r + 1, ?_, rfl⟩, hb⟩
        unfold Reads
        rw [hw]
        exact ⟨fun h => absurd h.1 (by omega), fun h => absurd h ha⟩
      · refine (scanBarred_no T U r w (by omega) hU hr (by omega) hTU (fun e => hcr (UInt8.toNat_inj.1 e))).mono ?_
        rintro e w' ⟨rfl, hb⟩
        refine ⟨⟨0, ⟨#[]⟩, 0, ?_, rfl⟩, hb⟩
        unfold Reads
        rw [hw]
        exact ⟨fun h => absurd h.2.1 (by decide), fun h => absurd h ha⟩
/-- Of a text that begins with no digit no number is read. -/
theorem scan_weak (T : ByteArray) (w : World) (hs : T.size ≤ 20000) (h0 : 0 < T.size) (hd : dg T[0] = false) :
    Calls Tryd.prog 23 #[.int .i64 (tokB T[0]), .string T] w fun e w' => (∃ k t n, (k ≠ 3 ∧ k ≠ 4) ∧ e = resN k t n) ∧ Below w.heap.size w w' := by
  obtain ⟨U, hUe⟩ : ∃ U : ByteArray, U.data.toList = T.data.toList.drop 1 := ⟨strOf _, strOf_toList _⟩
  have hTl : T.data.toList = [T[0]] ++ U.data.toList := by
    have := drop_at h0
    rw [List.drop_zero] at this
    rw [hUe]; exact this
  obtain ⟨hU, hTU⟩ := ext_tail (T := T) (U := U) (p := [T[0]]) (a := 1) hTl rfl
  by_cases h4 : tokB T[0] = 4
  · rw [h4]
    exact (scanNode_open T w).mono (by rintro e w' ⟨rfl, hb⟩; exact ⟨⟨1, _, _, by decide, rfl⟩, hb⟩)
  by_cases h5 : tokB T[0] = 5
  · rw [h5]
    refine (scanNode_scanText T (fun k _ _ => k ≠ 3 ∧ k ≠ 4) w (fun w => (scanText_any T w (by omega) h0).mono ?_))
    rintro e w' ⟨rfl, hb⟩
    cases scanT (T.data.toList.drop 1) with
    | none => exact ⟨⟨0, _, 0, by decide, rfl⟩, hb⟩
    | some x => exact ⟨⟨6, _, _, by decide, rfl⟩, hb⟩
  by_cases h6 : tokB T[0] = 6
  · rw [h6]
    refine (scanNode_scanBarred T (fun k _ _ => k ≠ 3 ∧ k ≠ 4) w (fun w => ?_))
    obtain ⟨r, hr⟩ : ∃ r, runL barB U.data.toList = r := ⟨_, rfl⟩
    have hrl : r ≤ U.size := by rw [← hr, Lib.size_eq]; exact runL_le _ _
    by_cases hlt : r < U.size
    · by_cases hcr : T[1 + r]'(by omega) = 124
      · exact (scanBarred_yes T U r w (by omega) hU hr hlt hTU hcr).mono (by rintro e w' ⟨rfl, hb⟩; exact ⟨⟨2, _, _, by decide, rfl⟩, hb⟩)
      · exact (scanBarred_no T U r w (by omega) hU hr hlt hTU (fun e => hcr (UInt8.toNat_inj.1 e))).mono (by rintro e w' ⟨rfl, hb⟩; exact ⟨⟨0, _, 0, by decide, rfl⟩, hb⟩)
    · exact (scanBarred_end T U w (by omega) hU (by rw [hr]; omega) hTU).mono (by rintro e w' ⟨rfl, hb⟩; exact ⟨⟨0, _, 0, by decide, rfl⟩, hb⟩)
  by_cases h7 : tokB T[0] = 7
  · rw [h7]
    obtain ⟨r, hr⟩ : ∃ r, runL nameB U.data.toList = r := ⟨_, rfl⟩
    have hrl : r ≤ U.size := by rw [← hr, Lib.size_eq]; exact runL_le _ _
    by_cases hr0 : 0 < r
    · exact (scanNode_key T U r w h0 (by omega) hU hr hr0 hrl hTU).mono (by rintro e w' ⟨rfl, hb⟩; exact ⟨⟨7, _, _, by decide, rfl⟩, hb⟩)
    · exact (scanNode_key0 T U w h0 (by omega) hU (by rw [hr]; omega) hTU).mono (by rintro e w' ⟨rfl, hb⟩; exact ⟨⟨0, _, 0, by decide, rfl⟩, hb⟩)
  by_cases h8 : tokB T[0] = 8
  · rw [h8]
    refine (scanNode_scanBits T (fun k _ _ => k ≠ 3 ∧ k ≠ 4) w (fun w => ?_))
    by_cases h2 : T.size < 2
    · exact (scanBits_short T w h2).mono (by rintro e w' ⟨rfl, hb⟩; exact ⟨⟨0, _, 0, by decide, rfl⟩, hb⟩)
    · obtain ⟨V, hVe⟩ : ∃ V : ByteArray, V.data.toList = T.data.toList.drop 2 := ⟨strOf _, strOf_toList _⟩
      have hTl2 : T.data.toList = [T[0], T[1]] ++ V.data.toList := by
        rw [hVe, hTl, hUe, drop_at (i := 1) (by omega)]; simp
      obtain ⟨hV, hTV⟩ := ext_tail (T := T) (U := V) (p := [T[0], T[1]]) (a := 2) hTl2 rfl
      by_cases hb1 : T[1]'(by omega) = 98
      · obtain ⟨r, hr⟩ : ∃ r, runL bitB V.data.toList = r := ⟨_, rfl⟩
        refine (scanBits_b T V r w (by omega) hV hr (by rw [← hr, Lib.size_eq]; exact runL_le _ _) hTV hb1).mono ?_
        rintro e w' ⟨⟨k, t, n, hp, rfl⟩, hb⟩
        refine ⟨⟨k, t, n, ?_, rfl⟩, hb⟩
        rcases hp with ⟨_, rfl, _⟩ | ⟨_, rfl, _⟩ <;> decide
      · by_cases hb2 : T[1]'(by omega) = 120
        · obtain ⟨r, hr⟩ : ∃ r, runL hexB V.data.toList = r := ⟨_, rfl⟩
          refine (scanBits_x T V r w (by omega) hV hr (by rw [← hr, Lib.size_eq]; exact runL_le _ _) hTV hb2).mono ?_
          rintro e w' ⟨⟨k, t, n, hp, rfl⟩, hb⟩
          refine ⟨⟨k, t, n, ?_, rfl⟩, hb⟩
          rcases hp with rfl | rfl <;> decide
        · exact (scanBits_other T w (by omega) (by omega) (fun e => hb1 (UInt8.toNat_inj.1 e)) (fun e => hb2 (UInt8.toNat_inj.1 e))).mono (by rintro e w' ⟨rfl, hb⟩; exact ⟨⟨0, _, 0, by decide, rfl⟩, hb⟩)
  by_cases h10 : tokB T[0] = 10
  · rw [h10]
    obtain ⟨r, hr⟩ : ∃ r, runL nameB T.data.toList = r := ⟨_, rfl⟩
    exact (scanNode_name T r w (by omega) hr (by rw [← hr, Lib.size_eq]; exact runL_le _ _)).mono (by rintro e w' ⟨rfl, hb⟩; exact ⟨⟨2, _, _, by decide, rfl⟩, hb⟩)
  have hlast : tokB T[0] = 0 ∨ tokB T[0] = 1 ∨ tokB T[0] = 2 ∨ tokB T[0] = 3 := by
    revert h4 h5 h6 h7 h8 h10
    unfold tokB
    rw [hd]
    repeat' split
    all_goals simp_all
  rcases hlast with h | h | h | h <;> rw [h]
  · exact (scanNode_none T w).mono (by rintro e w' ⟨rfl, hb⟩; exact ⟨⟨0, _, 0, by decide, rfl⟩, hb⟩)
  · exact (scanNode_none1 T w).mono (by rintro e w' ⟨rfl, hb⟩; exact ⟨⟨0, _, 0, by decide, rfl⟩, hb⟩)
  · exact (scanNode_none2 T w).mono (by rintro e w' ⟨rfl, hb⟩; exact ⟨⟨0, _, 0, by decide, rfl⟩, hb⟩)
  · exact (scanNode_none3 T w).mono (by rintro e w' ⟨rfl, hb⟩; exact ⟨⟨0, _, 0, by decide, rfl⟩, hb⟩)
theorem numOk_first {b : Bool} {t : List UInt8} (h : ∀ c, t.head? = some c → dg c = false) : numOk b t = false := by
  have : runL dg t = 0 := by
    cases t with
    | nil => rfl
    | cons c r => have := h c rfl; simp [runL, this]
  simp [numOk, this]
/-- How a number's text is judged. -/
theorem numOk_lead {b : Bool} {t : List UInt8} {k : Nat} (hk : runL dg t = k) (h1 : 1 < k) (h0 : t.head? = some 48) : numOk b t = false := by
  simp [numOk, hk, h1, h0]
/-- How many digits stand behind a point. -/
def fracN : List UInt8 → Nat
  | c :: r => if c = 46 then runL dg r else 0
  | [] => 0
theorem numOk_of {b : Bool} {t : List UInt8} {k m : Nat} (hk : runL dg t = k) (hk0 : 0 < k) (h1 : ¬ (1 < k ∧ t.head? = some 48)) (hm : fracN (t.drop k) = m) :
    numOk b t = if b then decide (0 < m) && decide (k + 1 + m = t.length) else decide (m = 0) && decide (k = t.length) := by
  have h2 : (decide (1 < k) && decide (t.head? = some 48)) = false := by
    rw [Bool.and_eq_false_iff, decide_eq_false_iff_not, decide_eq_false_iff_not]
    by_cases h : 1 < k
    · exact .inr (fun e => h1 ⟨h, e⟩)
    · exact .inl h
  unfold numOk
  simp only [hk]
  rw [h2, decide_eq_true hk0, ← hm]
  cases t.drop k with
  | nil => rfl
  | cons c r => rfl
theorem reads_num {kind : Int} {T : ByteArray} {k : Int} {t : ByteArray} {n : Nat} (hk : kind = 3 ∨ kind = 4) (h : (n = T.size ∧ k = kind ∧ t = T) ↔ numOk (decide (kind = 4)) T.data.toList = true) : Reads kind T T k t n := by
  unfold Reads
  rcases hk with rfl | rfl
  · exact h
  · exact h
theorem scan_num (kind : Int) (T : ByteArray) (w : World) (hk : kind = 3 ∨ kind = 4) (hs : T.size ≤ 20000) (h0 : 0 < T.size) : ScanR kind T T T[0] w := by
  have hh := head_at h0
  by_cases hd : dg T[0] = true
  · unfold ScanR
    rw [tokB_dg hd]
    refine scanNode_scanNumber T (Reads kind T T) w (fun w => ?_)
    obtain ⟨k, hkr⟩ : ∃ k, runL dg T.data.toList = k := ⟨_, rfl⟩
    have hkl : k ≤ T.size := by rw [← hkr, Lib.size_eq]; exact runL_le _ _
    have hk0 : 0 < k := by
      have e := drop_at h0
      rw [List.drop_zero] at e
      rw [← hkr, e]; simp [runL, hd]
    by_cases hz : 1 < k ∧ T[0].toNat = 48
    · refine (scanNumber_0 T k w (by omega) hkr hz.1 h0 hz.2).mono ?_
      rintro e w' ⟨rfl, hb⟩
      refine ⟨⟨0, _, 0, reads_num hk ?_, rfl⟩, hb⟩
      rw [numOk_lead hkr hz.1 (by rw [hh]; exact congrArg some (UInt8.toNat_inj.1 hz.2))]
      exact ⟨fun h => absurd h.1 (by omega), fun h => absurd h (by decide)⟩
    · have hz' : ¬ (1 < k ∧ T.data.toList.head? = some 48) := by
        rintro ⟨h1, h2⟩
        rw [hh] at h2
        exact hz ⟨h1, by rw [Option.some.inj h2]; rfl⟩
      by_cases hend : k = T.size
      · subst hend
        have hm : fracN (T.data.toList.drop T.size) = 0 := by
          rw [drop_end (by omega)]; rfl
        refine (scanNumber_end T w (by omega) hkr h0 hz).mono ?_
        rintro e w' ⟨rfl, hb⟩
        refine ⟨⟨3, T, T.size, reads_num hk ?_, rfl⟩, hb⟩
        rw [numOk_of hkr hk0 hz' hm, ← Lib.size_eq]
        rcases hk with rfl | rfl
        · simp
        · simp
      · have hlt : k < T.size := by omega
        have hdk := drop_at hlt
        by_cases hp : T[k] = 46
        · obtain ⟨U, hUe⟩ : ∃ U : ByteArray, U.data.toList = T.data.toList.drop (k + 1) := ⟨strOf _, strOf_toList _⟩
          have hTl : T.data.toList = T.data.toList.take (k + 1) ++ U.data.toList := by rw [hUe, List.take_append_drop]
          obtain ⟨hU, hTU⟩ := ext_tail (T := T) (U := U) (p := T.data.toList.take (k + 1)) (a := k + 1) hTl (by rw [List.length_take, ← Lib.size_eq]; omega)
          rw [show U.size + (k + 1) = T.size by omega] at hU
          obtain ⟨m, hm⟩ : ∃ m, runL dg U.data.toList = m := ⟨_, rfl⟩
          have hmm : fracN (T.data.toList.drop k) = m := by
            rw [hdk, ← hUe, hp]; exact hm
          have hml : m ≤ U.size := by rw [← hm, Lib.size_eq]; exact runL_le _ _
          by_cases hm0 : 0 < m
          · refine (scanNumber_dec T k U m w (by omega) hkr hk0 hz hlt (by rw [hp]; rfl) hU hm hm0).mono ?_
            rintro e w' ⟨rfl, hb⟩
            refine ⟨⟨4, T.extract 0 (k + 1 + m), k + 1 + m, reads_num hk ?_, rfl⟩, hb⟩
            rw [numOk_of hkr hk0 hz' hmm, ← Lib.size_eq]
            rcases hk with rfl | rfl
            · have : ¬ m = 0 := by omega
              simp [this]
            · simp only [decide_true, if_true, Bool.and_eq_true, decide_eq_true_eq]
              refine ⟨fun h => ⟨hm0, h.1⟩, fun h => ⟨h.2, by simp, ?_⟩⟩
              rw [h.2]; exact ext_all T
          · have hm0' : m = 0 := by omega
            subst hm0'
            refine (scanNumber_pt T k U w (by omega) hkr hk0 hz hlt (by rw [hp]; rfl) hU hm).mono ?_
            rintro e w' ⟨rfl, hb⟩
            refine ⟨⟨3, T.extract 0 k, k, reads_num hk ?_, rfl⟩, hb⟩
            rw [numOk_of hkr hk0 hz' hmm, ← Lib.size_eq]
            rcases hk with rfl | rfl
            · simp [hend]
            · simp
        · have hmm : fracN (T.data.toList.drop k) = 0 := by
            rw [hdk]; simp [fracN, hp]
          refine (scanNumber_other T k w (by omega) hkr hk0 hz hlt (fun e => hp (UInt8.toNat_inj.1 e))).mono ?_
          rintro e w' ⟨rfl, hb⟩
          refine ⟨⟨3, T.extract 0 k, k, reads_num hk ?_, rfl⟩, hb⟩
          rw [numOk_of hkr hk0 hz' hmm, ← Lib.size_eq]
          rcases hk with rfl | rfl
          · simp [hend]
          · simp
  · have hd' : dg T[0] = false := by simpa using hd
    refine (scan_weak T w hs h0 hd').mono ?_
    rintro e w' ⟨⟨k, t, n, hp, rfl⟩, hb⟩
    refine ⟨⟨k, t, n, reads_num hk ?_, rfl⟩, hb⟩
    rw [numOk_first (fun c hc => by rw [hh] at hc; rw [← Option.some.inj hc]; exact hd')]
    exact ⟨fun h => by rcases hk with rfl | rfl; exact absurd h.2.1 hp.1; exact absurd h.2.1 hp.2, fun h => absurd h (by decide)⟩
end Go.Proofs.YtdngpnlbhadbpaaDoor
