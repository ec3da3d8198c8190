import Derived.Test.YtebldkelihmihaaGreatDoorSpecSum
namespace Go.Proofs.YtebldkelihmihaaGreatDoor
open Go.RowKit
theorem num_digit (g : List UInt8) (hg : ∀ c ∈ g, dig c) (j : Nat) (hj : j < g.length) : num g / 10 ^ (g.length - 1 - j) % 10 = g[j].toNat - 48 := by
  induction hn : g.length generalizing g j with
  | zero => omega
  | succ n ih =>
    obtain ⟨f, c, rfl⟩ : ∃ f c, g = f ++ [c] := ⟨g.dropLast, g.getLast (by intro h; rw [h] at hj; simp at hj), (List.dropLast_concat_getLast _).symm⟩
    have hc : dig c := hg c (by simp)
    unfold dig at hc
    have hf : f.length = n := by simpa using hn
    rw [num_snoc]
    by_cases hjn : j < n
    · have e1 : n + 1 - 1 - j = (n - 1 - j) + 1 := by omega
      have e3 : (num f * 10 + (c.toNat - 48)) / 10 ^ (n - 1 - j + 1) = num f / 10 ^ (n - 1 - j) := by
        rw [Nat.pow_succ, Nat.mul_comm (10 ^ (n - 1 - j)) 10, ← Nat.div_div_eq_div_mul, show (num f * 10 + (c.toNat - 48)) / 10 = num f by omega]
      rw [e1, e3]
      have := ih f (fun x hx => hg x (by simp [hx])) j (by omega) hf
      rw [this]
      congr 2
      rw [List.getElem_append_left (by omega)]
    · have hjj : j = n := by simp at hj; omega
      subst hjj
      simp only [Nat.add_sub_cancel, Nat.sub_self, Nat.pow_zero, Nat.div_one]
      have e2 : (f ++ [c])[j] = c := by rw [List.getElem_append_right (by omega)]; simp [hf]
      rw [e2]
      omega
theorem digK_num (g : List UInt8) (hg : ∀ c ∈ g, dig c) (h9 : g.length = 9) : bytesOf (digK (num g) 9) = g := by
  apply List.ext_getElem
  · simp [bytesOf, digK, h9]
  · intro j h1 h2
    have hd := num_digit g hg j h2
    have hc := hg g[j] (List.getElem_mem _)
    unfold dig at hc
    simp only [bytesOf, digK, List.getElem_map, List.getElem_range]
    unfold dg tens
    rw [show 8 - j = g.length - 1 - j by omega, hd]
    apply UInt8.toNat_inj.1
    rw [UInt8.toNat_ofNat_of_lt' (by show _ < 256; omega)]
    omega
theorem num_zeros (k : Nat) (d : List UInt8) : num (List.replicate k 48 ++ d) = num d := by
  induction k with
  | zero => simp
  | succ k ih =>
    rw [List.replicate_succ, List.cons_append]
    show num (48 :: (List.replicate k 48 ++ d)) = num d
    rw [← ih]
    simp [num]
def padD (d : List UInt8) : List UInt8 := List.replicate (9 * cnt d.length - d.length) 48 ++ d
theorem padD_length (d : List UInt8) : (padD d).length = 9 * cnt d.length := by
  unfold padD cnt
  simp
  omega
theorem padD_dig (d : List UInt8) (hd : ∀ c ∈ d, dig c) : ∀ c ∈ padD d, dig c := by
  intro c hc
  unfold padD at hc
  rcases List.mem_append.1 hc with h | h
  · rw [List.eq_of_mem_replicate h]; exact ⟨by decide, by decide⟩
  · exact hd c h
theorem chunk_pad (d : List UInt8) (i : Nat) (hi : i < cnt d.length) : chunk d i = num (((padD d).take (9 * cnt d.length - 9 * i)).drop (9 * cnt d.length - 9 * i - 9)) := by
  unfold chunk padD
  have hz : 9 * cnt d.length - d.length ≤ 8 ∧ d.length ≤ 9 * cnt d.length := by unfold cnt; omega
  generalize hZ : 9 * cnt d.length - d.length = z at *
  have e1 : 9 * cnt d.length - 9 * i = z + (d.length - 9 * i) := by omega
  have e2 : (List.replicate z (48 : UInt8) ++ d).take (z + (d.length - 9 * i)) = List.replicate z 48 ++ d.take (d.length - 9 * i) := by
    rw [List.take_append, List.length_replicate, Nat.add_sub_cancel_left, List.take_of_length_le (by rw [List.length_replicate]; omega)]
  rw [e1, e2]
  by_cases h9 : 9 ≤ d.length - 9 * i
  · have e3 : (List.replicate z (48 : UInt8) ++ d.take (d.length - 9 * i)).drop (z + (d.length - 9 * i) - 9) = (d.take (d.length - 9 * i)).drop (d.length - 9 * i - 9) := by
      rw [List.drop_append, List.length_replicate, List.drop_eq_nil_of_le (by rw [List.length_replicate]; omega), List.nil_append, show z + (d.length - 9 * i) - 9 - z = d.length - 9 * i - 9 by omega]
    rw [e3]
  · rw [show z + (d.length - 9 * i) - 9 = 0 by omega, List.drop_zero, num_zeros, show d.length - 9 * i - 9 = 0 by omega, List.drop_zero]
theorem pad_chunks (d : List UInt8) (hd : ∀ c ∈ d, dig c) : bytesOf (padN (chunks d)) = padD d := by
  have key : ∀ k, k ≤ cnt d.length → bytesOf (padN ((List.range k).map (chunk d))) = (padD d).drop (9 * cnt d.length - 9 * k) := by
    intro k
    induction k with
    | zero => intro _; rw [List.drop_eq_nil_of_le (by rw [padD_length]; omega)]; rfl
    | succ k ih =>
      intro hk
      have e : bytesOf (padN ((List.range (k + 1)).map (chunk d))) = bytesOf (digK (chunk d k) 9) ++ bytesOf (padN ((List.range k).map (chunk d))) := by
        simp [padN, bytesOf, List.range_succ]
      rw [e, ih (by omega), chunk_pad d k (by omega)]
      have hl : (((padD d).take (9 * cnt d.length - 9 * k)).drop (9 * cnt d.length - 9 * k - 9)).length = 9 := by
        rw [List.length_drop, List.length_take, padD_length]; omega
      rw [digK_num _ (fun c hc => padD_dig d hd c (List.mem_of_mem_take (List.mem_of_mem_drop hc))) hl]
      rw [show 9 * cnt d.length - 9 * (k + 1) = 9 * cnt d.length - 9 * k - 9 by omega]
      generalize padD d = p
      have h9 : 9 * cnt d.length - 9 * k - 9 ≤ 9 * cnt d.length - 9 * k := by omega
      generalize 9 * cnt d.length - 9 * k - 9 = a at *
      generalize 9 * cnt d.length - 9 * k = b at *
      conv => rhs; rw [← List.take_append_drop b p]
      rw [List.drop_append]
      by_cases hb : b ≤ p.length
      · rw [List.length_take, Nat.min_eq_left hb, show a - b = 0 by omega, List.drop_zero]
      · have : (p.drop b) = [] := List.drop_eq_nil_of_le (by omega)
        rw [this]; simp
  have h := key (cnt d.length) (Nat.le_refl _)
  rw [show 9 * cnt d.length - 9 * cnt d.length = 0 by omega, List.drop_zero] at h
  exact h
theorem dropZ_zeros (k : Nat) (l : List UInt8) : dropZ (List.replicate k 48 ++ l) = dropZ l := by
  unfold dropZ
  induction k with
  | zero => simp
  | succ k ih => rw [List.replicate_succ, List.cons_append, List.dropWhile_cons]; simp [ih]
theorem textD_snoc_zero (l : List Nat) : textD (l ++ [0]) = textD l := by
  unfold textD padN bytesOf
  have e : (digK 0 9).map UInt8.ofNat = List.replicate 9 48 := by decide
  simp only [List.reverse_append, List.reverse_cons, List.reverse_nil, List.nil_append, List.cons_append, List.flatMap_cons, List.map_append, e]
  exact dropZ_zeros 9 _
theorem textD_trimL (l : List Nat) : textD (trimL l) = textD l := by
  generalize hn : l.length = n
  induction n generalizing l with
  | zero => rw [List.eq_nil_of_length_eq_zero hn]; rfl
  | succ n ih =>
    obtain ⟨f, x, rfl⟩ : ∃ f x, l = f ++ [x] := ⟨l.dropLast, l.getLast (by intro h; rw [h] at hn; simp at hn), (List.dropLast_concat_getLast _).symm⟩
    by_cases hx : x = 0
    · subst hx
      rw [trimL_snoc_zero, textD_snoc_zero]
      exact ih f (by simpa using hn)
    · rw [trimL_snoc_pos _ _ hx]
theorem textD_chunks (d : List UInt8) (hd : ∀ c ∈ d, dig c) (h0 : d.head? ≠ some 48) : textD (trimL (chunks d)) = d := by
  rw [textD_trimL]
  unfold textD
  rw [pad_chunks d hd]
  unfold padD
  rw [dropZ_zeros]
  unfold dropZ
  cases d with
  | nil => rfl
  | cons c l =>
    rw [List.dropWhile_cons]
    have : ¬ c = 48 := fun e => h0 (by rw [e]; rfl)
    simp [this]
theorem neg_text (s : ByteArray) (h : isNeg s = true) : s = strB (45 :: (dgs s).data.toList) := by
  have hd : dgs s = s.extract 1 s.size := by unfold dgs; rw [if_pos h]
  unfold isNeg at h
  have h1 : (s.extract 0 1).toList = [45] := by simpa using h
  rw [hd]
  apply ByteArray.ext
  rw [ByteArray.toList_eq] at h1
  have h2 : s.data.toList.take 1 = [45] := by simpa [ByteArray.data_extract, Array.toList_extract, List.extract] using h1
  have h3 : (s.extract 1 s.size).data.toList = s.data.toList.drop 1 := by
    rw [ByteArray.data_extract, Array.toList_extract]
    show (s.data.toList.drop 1).take (s.size - 1) = _
    exact List.take_of_length_le (by rw [List.length_drop]; exact Nat.le_refl _)
  rw [h3]
  show s.data = (45 :: s.data.toList.drop 1).toArray
  have h4 : s.data.toList = 45 :: s.data.toList.drop 1 := by
    conv => lhs; rw [← List.take_append_drop 1 s.data.toList, h2]
    rfl
  rw [← h4]
theorem pos_text (s : ByteArray) (h : isNeg s = false) : s = strB (dgs s).data.toList := by
  have hd : dgs s = s := by unfold dgs; rw [h]; rfl
  rw [hd]
  rfl
theorem text_back (s : ByteArray) (h : isIntB s = true) : IsText (numT s) s := by
  have h' := h
  unfold isIntB at h
  simp only [Bool.and_eq_true, Bool.or_eq_true, decide_eq_true_eq, Bool.not_eq_true', decide_eq_false_iff_not, List.all_eq_true] at h
  obtain ⟨⟨⟨h1, h2⟩, h3⟩, h4⟩ := h
  have hdig : ∀ c ∈ (dgs s).data.toList, dig c := fun c hc => by have := h3 c hc; unfold isDig at this; simpa [dig] using this
  have hok : okL (lim s) := trimL_ok _ (chunks_ok _ hdig)
  refine ⟨isNeg s, lim s, hok, trimL_trim _, rfl, ?_⟩
  by_cases h5 : (dgs s).data.toList.head? = some 48
  · have h6 : s.toList = [48] := by
      rcases h4 with h | h
      · exact absurd h5 h
      · simpa using h
    have h7 : s = strB [48] := by
      rw [ByteArray.toList_eq] at h6
      apply ByteArray.ext
      show s.data = [48].toArray
      rw [← h6]
    rw [h7]
    have hl : lim (strB [48]) = [] := by kernel_rfl
    rw [hl]
    rfl
  · have ht := textD_chunks (dgs s).data.toList hdig h5
    have hlen : (dgs s).data.toList.length = (dgs s).size := by simp
    have hne : lim s ≠ [] := fun e => by
      have : textD (lim s) = (dgs s).data.toList := ht
      rw [e] at this
      have h8 : (dgs s).data.toList.length = 0 := by rw [← this]; rfl
      omega
    have hng : negOf (isNeg s) (lim s) = isNeg s := by
      unfold negOf
      have : 0 < (lim s).length := List.length_pos_iff.2 hne
      simp [this]
    rw [hng]
    unfold textT
    rw [if_neg (fun e => hne (List.eq_nil_of_length_eq_zero e))]
    unfold textS
    have ht' : textD (lim s) = (dgs s).data.toList := ht
    rw [ht', if_neg (by omega)]
    cases hs : isNeg s
    · exact pos_text s hs
    · exact neg_text s hs
def IsLow (x y n d : Int) : Prop := ∃ c : Int, c ≠ 0 ∧ x = n * c ∧ y = d * c ∧ 0 < d ∧ c.natAbs = Int.gcd x y
theorem isLow_unique {x y n d n' d' : Int} (h : IsLow x y n d) (h' : IsLow x y n' d') : n = n' ∧ d = d' := by
  obtain ⟨c, c0, e1, e2, p, g⟩ := h
  obtain ⟨c', c0', e1', e2', p', g'⟩ := h'
  have hcc : c = c' := by
    have ha : c.natAbs = c'.natAbs := by rw [g, g']
    rcases Int.natAbs_eq_natAbs_iff.1 ha with h | h
    · exact h
    · exfalso
      subst h
      have : d * -c' = d' * c' := e2.symm.trans e2'
      have h2 : (d + d') * c' = 0 := by grind
      rcases Int.mul_eq_zero.1 h2 with h3 | h3
      · omega
      · exact c0' h3
  subst hcc
  exact ⟨Int.eq_of_mul_eq_mul_right c0 (e1.symm.trans e1'), Int.eq_of_mul_eq_mul_right c0 (e2.symm.trans e2')⟩
theorem isLow_one {x y : Int} (hy : 0 < y) (h : Int.gcd x y = 1) : IsLow x y x y := ⟨1, by decide, by simp, by simp, hy, by rw [h]; rfl⟩
end Go.Proofs.YtebldkelihmihaaGreatDoor
