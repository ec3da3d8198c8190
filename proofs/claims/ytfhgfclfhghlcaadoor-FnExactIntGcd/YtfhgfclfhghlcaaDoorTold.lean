import Derived.Test.YtfhgfclfhghlcaaDoorOfSpec
namespace Go.Proofs.YtfhgfclfhghlcaaDoor
open Go.ChangeShapes Go.WideShapes Go.ChangeAt Go.RowKit
theorem dropZ_append (a b : List UInt8) (h : dropZ a ≠ []) : dropZ (a ++ b) = dropZ a ++ b := by
  induction a with
  | nil => exact absurd rfl h
  | cons x a ih =>
    unfold dropZ at *
    simp only [List.cons_append, List.dropWhile_cons] at *
    split
    · rename_i hx; rw [if_pos hx] at h; exact ih h
    · rfl
theorem dropZ_all (a : List UInt8) (h : dropZ a = []) : ∀ x ∈ a, x = 48 := by
  induction a with
  | nil => intro x hx; cases hx
  | cons y a ih =>
    unfold dropZ at *
    simp only [List.dropWhile_cons] at h
    split at h
    · rename_i hy
      intro x hx
      rcases List.mem_cons.1 hx with rfl | hx
      · simpa using hy
      · exact ih h x hx
    · cases h
theorem dg_zero (x j : Nat) (h : UInt8.ofNat (dg x j) = 48) : x / tens j % 10 = 0 := by
  have h1 := congrArg UInt8.toNat h
  unfold dg at h1
  rw [UInt8.toNat_ofNat_of_lt' (by simp [UInt8.size]; omega)] at h1
  have : (48 : UInt8).toNat = 48 := rfl
  omega
theorem digK_ne (x : Nat) (h0 : x ≠ 0) (h : x < 1000000000) : dropZ (bytesOf (digK x 9)) ≠ [] := by
  intro he
  have hall := dropZ_all _ he
  have hd : ∀ j, j < 9 → x / tens j % 10 = 0 := fun j hj => dg_zero x j (hall _ (by
    unfold bytesOf digK
    rw [List.map_map, List.mem_map]
    exact ⟨j, List.mem_range.2 hj, rfl⟩))
  have d0 := hd 0 (by decide); have d1 := hd 1 (by decide); have d2 := hd 2 (by decide); have d3 := hd 3 (by decide); have d4 := hd 4 (by decide)
  have d5 := hd 5 (by decide); have d6 := hd 6 (by decide); have d7 := hd 7 (by decide); have d8 := hd 8 (by decide)
  have e0 : tens 0 = 100000000 := rfl
  have e1 : tens 1 = 10000000 := rfl
  have e2 : tens 2 = 1000000 := rfl
  have e3 : tens 3 = 100000 := rfl
  have e4 : tens 4 = 10000 := rfl
  have e5 : tens 5 = 1000 := rfl
  have e6 : tens 6 = 100 := rfl
  have e7 : tens 7 = 10 := rfl
  have e8 : tens 8 = 1 := rfl
  rw [e0] at d0; rw [e1] at d1; rw [e2] at d2; rw [e3] at d3; rw [e4] at d4; rw [e5] at d5; rw [e6] at d6; rw [e7] at d7; rw [e8] at d8
  omega
theorem textD_ge (t : List Nat) (hok : okL t) (htr : isTrim t) (hne : t ≠ []) : 9 * (t.length - 1) + 1 ≤ (textD t).length := by
  have hl := htr hne
  have hlb := hok _ (List.getLast_mem hne)
  obtain ⟨u, x, rfl⟩ : ∃ u x, t = u ++ [x] := ⟨t.dropLast, t.getLast hne, (List.dropLast_concat_getLast hne).symm⟩
  simp at hl hlb
  have hn := digK_ne x hl hlb
  have e : bytesOf (padN (u ++ [x])) = bytesOf (digK x 9) ++ bytesOf (padN u) := by
    unfold padN bytesOf
    simp
  unfold textD
  rw [e, dropZ_append _ _ hn]
  have h1 : 0 < (dropZ (bytesOf (digK x 9))).length := List.length_pos_iff.2 hn
  have h2 : (bytesOf (padN u)).length = 9 * u.length := by rw [bytesOf, List.length_map, padN_length]
  have h3 : (dropZ (bytesOf (digK x 9)) ++ bytesOf (padN u)).length = (dropZ (bytesOf (digK x 9))).length + (bytesOf (padN u)).length := List.length_append
  have h4 : (u ++ [x]).length = u.length + 1 := by simp
  omega
theorem fullT_size (ng : Bool) (t : List Nat) (h : t.length ≠ 0) : (fullT ng t).size = (if ng then 1 else 0) + (textD t).length := by
  unfold fullT
  rw [if_neg h]
  cases ng
  · simp [strB_size]
  · simp [strB_size]; omega
/-- How many digits the specification counts. -/
def digC (t : List Nat) : Nat := if t.length = 0 then 1 else (textD t).length
set_option maxRecDepth 100000 in
set_option maxHeartbeats 1000000 in
theorem l1Digits_any (B : Nat) (z : Value) (neg : Bool) (t : List Nat) (w : World) (hz : IsZ B w z neg t) (hBw : B ≤ w.heap.size) (hlen : t.length ≤ 600) :
    Calls Tryd.prog 46 #[z] w fun e w' => e = .returned (.int .i64 (digC t : Nat)) ∧ Below w.heap.size w w' := by
  obtain ⟨z0, zn, za, zl, zc, hzz⟩ := hz.shape
  subst hzz
  have HNG : Hid (ngZ z0 zn zl = negOf neg t) := ngZ_of hz
  obtain ⟨W0, hW0⟩ : ∃ W0, w.alloc (.cells #[.int .i64 z0, .bool zn, .slice za zl zc] 34) = W0 := ⟨_, rfl⟩
  have HW0 : Hid (w.alloc (.cells #[.int .i64 z0, .bool zn, .slice za zl zc] 34) = W0) := hW0
  have hb0 : Below w.heap.size w W0 := by rw [← hW0]; exact below_alloc _ _
  have hs0 : W0.heap.size = w.heap.size + 1 := by rw [← hW0]; simp
  have HZ : Hid (IsZ B W0 (.agg #[.int .i64 z0, .bool zn, .slice za zl zc]) neg t) := hz.below hb0
  have HB0 : Hid (Below w.heap.size w W0) := hb0
  have HX : Hid (∀ W, Below W0.heap.size W0 W → W.cell? ⟨w.heap.size, 0, none⟩ = some (.int .i64 z0) ∧ W.cell? ⟨w.heap.size, 1, none⟩ = some (.bool zn) ∧ W.cell? ⟨w.heap.size, 2, none⟩ = some (.slice za zl zc)) := fun W hW => by
    refine ⟨?_, ?_, ?_⟩
    · rw [hW.cell (p := ⟨w.heap.size, 0, none⟩) (by show w.heap.size < _; omega), ← hW0, World.cell?_alloc_at _ _ _ _ rfl]; rfl
    · rw [hW.cell (p := ⟨w.heap.size, 1, none⟩) (by show w.heap.size < _; omega), ← hW0, World.cell?_alloc_at _ _ _ _ rfl]; rfl
    · rw [hW.cell (p := ⟨w.heap.size, 2, none⟩) (by show w.heap.size < _; omega), ← hW0, World.cell?_alloc_at _ _ _ _ rfl]; rfl
  clear hz hb0 hW0
  go_enter Tryd.func46, Tryd.ntmps46
  go_wp2_with fail
  rw [HW0.out]
  refine (l1Text_any B _ neg t _ HZ.out (by omega) hlen).mono ?_
  rintro e w1 ⟨rfl, hb1⟩
  obtain ⟨c0, c1, c2⟩ := HX.out w1 hb1
  obtain ⟨ng, hng⟩ : ∃ ng, negOf neg t = ng := ⟨_, rfl⟩
  have HNGq : Hid (negOf neg t = ng) := hng
  have HSZ : Hid ((fullT ng t).size = (if ng then 1 else 0) + digC t) := by
    show (fullT ng t).size = (if ng then 1 else 0) + digC t
    by_cases h0 : t.length = 0
    · have e1 : ng = false := by rw [← hng]; unfold negOf; simp [h0]
      unfold fullT digC
      rw [if_pos h0, if_pos h0, e1]
      rfl
    · rw [fullT_size ng t h0]
      unfold digC
      rw [if_neg h0]
  have hdb : (fullT ng t).size ≤ 6000 := by
    have h1 := textD_len t
    have h2 := HSZ.out
    have h3 : digC t ≤ 5401 := by unfold digC; split <;> omega
    cases ng <;> simp at h2 <;> omega
  have HE1 : Hid (Below w.heap.size w w1) := HB0.out.trans (hb1.mono (by omega))
  rw [hng]
  clear hng hb1
  obtain ⟨s, hs⟩ : ∃ s, fullT ng t = s := ⟨_, rfl⟩
  rw [hs] at hdb HSZ ⊢
  clear hs
  go_wp2_with fail
  refine (l1Neg_ex _ _ _ _ _ _).mono ?_
  rintro e w' ⟨rfl, hw'⟩
  subst w'
  rw [HNG.out, HNGq.out]
  cases ng
  all_goals
    go_wp2
    go_ret
    exact ⟨ret_int (by have := HSZ.out; simp at this; omega), below_al HE1.out _⟩
set_option maxRecDepth 100000 in
set_option maxHeartbeats 1000000 in
theorem l1Told_any (B : Nat) (z : Value) (neg : Bool) (t : List Nat) (w : World) (hz : IsZ B w z neg t) (hBw : B ≤ w.heap.size) :
    Calls Tryd.prog 25 #[z] w fun e w' => e = .returned (.string (textT (negOf neg t) t)) ∧ Below w.heap.size w w' := by
  obtain ⟨z0, zn, za, zl, zc, hzz⟩ := hz.shape
  have hok := hz.1
  have htr := hz.2.1
  have hzl : (zl = 0 ∧ t.length ≤ 2) ∨ (zl = t.length ∧ 2 < t.length ∧ zl ≤ maxLen) := by
    obtain ⟨_, _, h3⟩ := hz
    rcases h3 with ⟨h3, v, e, p, c, rfl, hl, hcap, _⟩ | ⟨h3, e⟩
    · rw [hzz] at e; simp at e; exact .inr ⟨e.2.2.2.1, h3, by omega⟩
    · rw [hzz] at e; simp at e; exact .inl ⟨e.2.2.2.1, h3⟩
  subst hzz
  obtain ⟨W0, hW0⟩ : ∃ W0, w.alloc (.cells #[.int .i64 z0, .bool zn, .slice za zl zc] 34) = W0 := ⟨_, rfl⟩
  have HW0 : Hid (w.alloc (.cells #[.int .i64 z0, .bool zn, .slice za zl zc] 34) = W0) := hW0
  have hb0 : Below w.heap.size w W0 := by rw [← hW0]; exact below_alloc _ _
  have hs0 : W0.heap.size = w.heap.size + 1 := by rw [← hW0]; simp
  have HZ : Hid (IsZ B W0 (.agg #[.int .i64 z0, .bool zn, .slice za zl zc]) neg t) := hz.below hb0
  have HB0 : Hid (Below w.heap.size w W0) := hb0
  have HX : Hid (∀ W, Below W0.heap.size W0 W → W.cell? ⟨w.heap.size, 0, none⟩ = some (.int .i64 z0) ∧ W.cell? ⟨w.heap.size, 1, none⟩ = some (.bool zn) ∧ W.cell? ⟨w.heap.size, 2, none⟩ = some (.slice za zl zc)) := fun W hW => by
    refine ⟨?_, ?_, ?_⟩
    · rw [hW.cell (p := ⟨w.heap.size, 0, none⟩) (by show w.heap.size < _; omega), ← hW0, World.cell?_alloc_at _ _ _ _ rfl]; rfl
    · rw [hW.cell (p := ⟨w.heap.size, 1, none⟩) (by show w.heap.size < _; omega), ← hW0, World.cell?_alloc_at _ _ _ _ rfl]; rfl
    · rw [hW.cell (p := ⟨w.heap.size, 2, none⟩) (by show w.heap.size < _; omega), ← hW0, World.cell?_alloc_at _ _ _ _ rfl]; rfl
  unfold maxLen at hzl
  by_cases hbig : 280 < zl
  · have htl : 280 < t.length := by omega
    have HT : Hid (textT (negOf neg t) t = strB []) := by
      have h1 := textD_ge t hok htr (by intro e; rw [e] at htl; simp at htl)
      show textT (negOf neg t) t = strB []
      unfold textT textS
      rw [if_neg (by omega), if_pos (by omega)]
    have zz : decide (280 < (zl : Int)) = true := by rw [decide_eq_true_iff]; omega
    clear hz hb0 hW0
    go_enter Tryd.func25, Tryd.ntmps25
    go_wp2
    go_ret
    exact ⟨by rw [HT.out]; rfl, by first | exact HB0.out | (rw [HW0.out]; exact HB0.out) | exact below_alloc _ _⟩
  · have htl : t.length ≤ 280 := by omega
    have zz : decide (280 < (zl : Int)) = false := by rw [decide_eq_false_iff_not]; omega
    have HDT : Hid (textT (negOf neg t) t = if 2500 < digC t then strB [] else fullT (negOf neg t) t) := by
      show textT (negOf neg t) t = if 2500 < digC t then strB [] else fullT (negOf neg t) t
      unfold textT textS fullT digC
      by_cases h0 : t.length = 0
      · rw [if_pos h0, if_pos h0, if_pos h0, if_neg (by omega)]
      · rw [if_neg h0, if_neg h0, if_neg h0]
    clear hz hb0 hW0 hok htr
    have hdc : digC t ≤ 6000 := by have := textD_len t; unfold digC; split <;> omega
    go_enter Tryd.func25, Tryd.ntmps25
    go_wp2_with fail
    rw [HW0.out]
    refine (l1Digits_any B _ neg t _ HZ.out (by omega) (by omega)).mono ?_
    rintro e w1 ⟨rfl, hb1⟩
    obtain ⟨c0, c1, c2⟩ := HX.out w1 hb1
    have HE1 : Hid (Below w.heap.size w w1) := HB0.out.trans (hb1.mono (by omega))
    have HZ1 : Hid (IsZ B w1 (.agg #[.int .i64 z0, .bool zn, .slice za zl zc]) neg t) := HZ.out.below hb1
    have hs1 : B ≤ w1.heap.size := by have := hb1.size; omega
    clear hb1
    by_cases hd : 2500 < digC t
    · have HT : Hid (textT (negOf neg t) t = strB []) := HDT.out.trans (if_pos hd)
      have z2 : decide (2500 < (digC t : Int)) = true := by rw [decide_eq_true_iff]; omega
      go_wp2
      go_ret
      exact ⟨by rw [HT.out]; rfl, HE1.out⟩
    · have HT : Hid (textT (negOf neg t) t = fullT (negOf neg t) t) := HDT.out.trans (if_neg hd)
      have z2 : decide (2500 < (digC t : Int)) = false := by rw [decide_eq_false_iff_not]; omega
      go_wp2_with fail
      refine (l1Text_any B _ neg t _ HZ1.out hs1 (by omega)).mono ?_
      rintro e w2 ⟨rfl, hb2⟩
      have HE2 : Hid (Below w.heap.size w w2) := HE1.out.trans (hb2.mono HE1.out.size)
      clear hb2
      go_wp2
      go_ret
      exact ⟨by rw [HT.out]; rfl, HE2.out⟩
end Go.Proofs.YtfhgfclfhghlcaaDoor
