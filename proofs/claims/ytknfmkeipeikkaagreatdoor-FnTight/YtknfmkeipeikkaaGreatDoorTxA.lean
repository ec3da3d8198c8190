import Derived.Test.YtknfmkeipeikkaaGreatDoorQQp
import Derived.Test.YtknfmkeipeikkaaGreatDoorU5p
import Derived.Test.YtknfmkeipeikkaaGreatDoorU7p
import Derived.Test.YtknfmkeipeikkaaGreatDoorDivSpecp
import Derived.Test.YtknfmkeipeikkaaGreatDoorTgQVp
import Derived.Test.YtknfmkeipeikkaaGreatDoorTLRp
import Derived.Test.YtknfmkeipeikkaaGreatDoorM8p
import Derived.Laws.Bits64b
namespace Go.Proofs.YtknfmkeipeikkaaGreatDoor.L
open Go.ChangeShapes Go.WideShapes Go.ChangeAt Go.RowKit
theorem hidG {p : Prop} (h : p) : Hid p := h
end Go.Proofs.YtknfmkeipeikkaaGreatDoor.L
namespace Go.Proofs.YtknfmkeipeikkaaGreatDoor
open Go.ChangeShapes Go.WideShapes Go.ChangeAt Go.RowKit
theorem hidG {p : Prop} (h : p) : Hid p := h
theorem dropZ_append (a b : List UInt8) (h : dropZ a ≠ []) : dropZ (a ++ b) = dropZ a ++ b := by
  induction a with
  | nil => exact absurd rfl h
  | cons x a ih =>
    unfold dropZ at *
    simp only [List.cons_append, List.dropWhile_cons] at *
    split
    · rename_i hx; rw [if_pos hx] at h; exact ih h
    · rfl
theorem dropZ_all (a : List UInt8) (h : dropZ a = []) : ∀ x ∈ a, x = 48 := by
  induction a with
  | nil => intro x hx; cases hx
  | cons y a ih =>
    unfold dropZ at *
    simp only [List.dropWhile_cons] at h
    split at h
    · rename_i hy
      intro x hx
      rcases List.mem_cons.1 hx with rfl | hx
      · simpa using hy
      · exact ih h x hx
    · cases h
theorem dg_zero (x j : Nat) (h : UInt8.ofNat (dg x j) = 48) : x / tens j % 10 = 0 := by
  have h1 := congrArg UInt8.toNat h
  unfold dg at h1
  rw [UInt8.toNat_ofNat_of_lt' (by simp [UInt8.size]; omega)] at h1
  have : (48 : UInt8).toNat = 48 := rfl
  omega
theorem digK_ne (x : Nat) (h0 : x ≠ 0) (h : x < 1000000000) : dropZ (bytesOf (digK x 9)) ≠ [] := by
  intro he
  have hall := dropZ_all _ he
  have hd : ∀ j, j < 9 → x / tens j % 10 = 0 := fun j hj => dg_zero x j (hall _ (by
    unfold bytesOf digK
    rw [List.map_map, List.mem_map]
    exact ⟨j, List.mem_range.2 hj, rfl⟩))
  have d0 := hd 0 (by decide); have d1 := hd 1 (by decide); have d2 := hd 2 (by decide); have d3 := hd 3 (by decide); have d4 := hd 4 (by decide)
  have d5 := hd 5 (by decide); have d6 := hd 6 (by decide); have d7 := hd 7 (by decide); have d8 := hd 8 (by decide)
  have e0 : tens 0 = 100000000 := rfl
  have e1 : tens 1 = 10000000 := rfl
  have e2 : tens 2 = 1000000 := rfl
  have e3 : tens 3 = 100000 := rfl
  have e4 : tens 4 = 10000 := rfl
  have e5 : tens 5 = 1000 := rfl
  have e6 : tens 6 = 100 := rfl
  have e7 : tens 7 = 10 := rfl
  have e8 : tens 8 = 1 := rfl
  rw [e0] at d0; rw [e1] at d1; rw [e2] at d2; rw [e3] at d3; rw [e4] at d4; rw [e5] at d5; rw [e6] at d6; rw [e7] at d7; rw [e8] at d8
  omega
theorem textD_ge (t : List Nat) (hok : okL t) (htr : isTrim t) (hne : t ≠ []) : 9 * (t.length - 1) + 1 ≤ (textD t).length := by
  have hl := htr hne
  have hlb := hok _ (List.getLast_mem hne)
  obtain ⟨u, x, rfl⟩ : ∃ u x, t = u ++ [x] := ⟨t.dropLast, t.getLast hne, (List.dropLast_concat_getLast hne).symm⟩
  simp at hl hlb
  have hn := digK_ne x hl hlb
  have e : bytesOf (padN (u ++ [x])) = bytesOf (digK x 9) ++ bytesOf (padN u) := by
    unfold padN bytesOf
    simp
  unfold textD
  rw [e, dropZ_append _ _ hn]
  have h1 : 0 < (dropZ (bytesOf (digK x 9))).length := List.length_pos_iff.2 hn
  have h2 : (bytesOf (padN u)).length = 9 * u.length := by rw [bytesOf, List.length_map, padN_length]
  have h3 : (dropZ (bytesOf (digK x 9)) ++ bytesOf (padN u)).length = (dropZ (bytesOf (digK x 9))).length + (bytesOf (padN u)).length := List.length_append
  have h4 : (u ++ [x]).length = u.length + 1 := by simp
  omega
set_option maxRecDepth 100000 in
set_option maxHeartbeats 1000000 in
theorem l1Told_any (B : Nat) (z : Value) (neg : Bool) (t : List Nat) (w : World) (hz : IsZ B w z neg t) (hBw : B ≤ w.heap.size) :
    Calls Tryz.prog 37 #[z] w fun e w' => e = .returned (.string (textT (negOf neg t) t)) ∧ Below w.heap.size w w' := by
  obtain ⟨z0, zn, za, zl, zc, hzz⟩ := hz.shape
  have hok := hz.1
  have htr := hz.2.1
  have hzl : (zl = 0 ∧ t.length ≤ 2) ∨ (zl = t.length ∧ 2 < t.length ∧ zl ≤ maxLen) := by
    obtain ⟨_, _, h3⟩ := hz
    rcases h3 with ⟨h3, v, e, p, c, rfl, hl, hcap, _⟩ | ⟨h3, e⟩
    · rw [hzz] at e; simp at e; exact .inr ⟨e.2.2.2.1, h3, by omega⟩
    · rw [hzz] at e; simp at e; exact .inl ⟨e.2.2.2.1, h3⟩
  subst hzz
  obtain ⟨W0, hW0⟩ : ∃ W0, w.alloc (.cells #[.int .i64 z0, .bool zn, .slice za zl zc] 53) = W0 := ⟨_, rfl⟩
  have HW0 : Hid (w.alloc (.cells #[.int .i64 z0, .bool zn, .slice za zl zc] 53) = W0) := hW0
  have hb0 : Below w.heap.size w W0 := by rw [← hW0]; exact below_alloc _ _
  have hs0 : W0.heap.size = w.heap.size + 1 := by rw [← hW0]; simp
  have HZ : Hid (IsZ B W0 (.agg #[.int .i64 z0, .bool zn, .slice za zl zc]) neg t) := hz.below hb0
  have HB0 : Hid (Below w.heap.size w W0) := hb0
  have HX : Hid (∀ W, Below W0.heap.size W0 W → W.cell? ⟨w.heap.size, 0, none⟩ = some (.int .i64 z0) ∧ W.cell? ⟨w.heap.size, 1, none⟩ = some (.bool zn) ∧ W.cell? ⟨w.heap.size, 2, none⟩ = some (.slice za zl zc)) := fun W hW => by
    refine ⟨?_, ?_, ?_⟩
    · rw [hW.cell (p := ⟨w.heap.size, 0, none⟩) (by show w.heap.size < _; omega), ← hW0, World.cell?_alloc_at _ _ _ _ rfl]; rfl
    · rw [hW.cell (p := ⟨w.heap.size, 1, none⟩) (by show w.heap.size < _; omega), ← hW0, World.cell?_alloc_at _ _ _ _ rfl]; rfl
    · rw [hW.cell (p := ⟨w.heap.size, 2, none⟩) (by show w.heap.size < _; omega), ← hW0, World.cell?_alloc_at _ _ _ _ rfl]; rfl
  unfold maxLen at hzl
  by_cases hbig : 280 < zl
  · have htl : 280 < t.length := by omega
    have HT : Hid (textT (negOf neg t) t = strB []) := by
      have h1 := textD_ge t hok htr (by intro e; rw [e] at htl; simp at htl)
      show textT (negOf neg t) t = strB []
      unfold textT textS
      rw [if_neg (by omega), if_pos (by omega)]
    have zz : decide (280 < (zl : Int)) = true := by rw [decide_eq_true_iff]; omega
    clear hz hb0 hW0
    go_enter Tryz.func37, Tryz.ntmps37
    go_wp2
    go_ret
    exact ⟨by rw [HT.out]; rfl, by first | exact HB0.out | (rw [HW0.out]; exact HB0.out) | exact below_alloc _ _⟩
  · have htl : t.length ≤ 280 := by omega
    have zz : decide (280 < (zl : Int)) = false := by rw [decide_eq_false_iff_not]; omega
    have HDT : Hid (textT (negOf neg t) t = if 2500 < digC t then strB [] else fullT (negOf neg t) t) := by
      show textT (negOf neg t) t = if 2500 < digC t then strB [] else fullT (negOf neg t) t
      unfold textT textS fullT digC
      by_cases h0 : t.length = 0
      · rw [if_pos h0, if_pos h0, if_pos h0, if_neg (by omega)]
      · rw [if_neg h0, if_neg h0, if_neg h0]
    clear hz hb0 hW0 hok htr
    have hdc : digC t ≤ 6000 := by have := textD_len t; unfold digC; split <;> omega
    go_enter Tryz.func37, Tryz.ntmps37
    go_wp2_with fail
    rw [HW0.out]
    refine (l1Digits_any B _ neg t _ HZ.out (by omega) (by omega)).mono ?_
    rintro e w1 ⟨rfl, hb1⟩
    obtain ⟨c0, c1, c2⟩ := HX.out w1 hb1
    have HE1 : Hid (Below w.heap.size w w1) := HB0.out.trans (hb1.mono (by omega))
    have HZ1 : Hid (IsZ B w1 (.agg #[.int .i64 z0, .bool zn, .slice za zl zc]) neg t) := HZ.out.below hb1
    have hs1 : B ≤ w1.heap.size := by have := hb1.size; omega
    clear hb1
    by_cases hd : 2500 < digC t
    · have HT : Hid (textT (negOf neg t) t = strB []) := HDT.out.trans (if_pos hd)
      have z2 : decide (2500 < (digC t : Int)) = true := by rw [decide_eq_true_iff]; omega
      go_wp2
      go_ret
      exact ⟨by rw [HT.out]; rfl, HE1.out⟩
    · have HT : Hid (textT (negOf neg t) t = fullT (negOf neg t) t) := HDT.out.trans (if_neg hd)
      have z2 : decide (2500 < (digC t : Int)) = false := by rw [decide_eq_false_iff_not]; omega
      go_wp2_with fail
      refine (l1Text_any B _ neg t _ HZ1.out hs1 (by omega)).mono ?_
      rintro e w2 ⟨rfl, hb2⟩
      have HE2 : Hid (Below w.heap.size w w2) := HE1.out.trans (hb2.mono HE1.out.size)
      clear hb2
      go_wp2
      go_ret
      exact ⟨by rw [HT.out]; rfl, HE2.out⟩
theorem num_one : numT (strB [49]) = 1 := by kernel_rfl
theorem numT_neg (s : ByteArray) (h : 0 < numT s) : isNeg s = false := by
  unfold numT at h
  cases hs : isNeg s
  · rfl
  · rw [hs] at h; simp [sg] at h; omega
theorem isCut_ex (s : ByteArray) : ∃ k, IsCut s k := by
  have hge := Lib.indexByte_ge s.data.toList 47
  by_cases h : Lib.indexByte s.data.toList 47 = -1
  · exact ⟨none, fun j => Lib.indexByte_none h j⟩
  · obtain ⟨o, ho⟩ := Int.eq_ofNat_of_zero_le (show 0 ≤ Lib.indexByte s.data.toList 47 by omega)
    exact ⟨some o, Lib.indexByte_some ho⟩
/-- Whether a text is a rat text. -/
def IsRatB (s : ByteArray) (b : Bool) : Prop := ∃ k, IsCut s k ∧ (b = true ↔ ∃ x y, RatV s k x y)
theorem text_size {x : Int} {u : ByteArray} (h : IsText x u) : u.size ≤ 2501 := by
  obtain ⟨neg, t, _, _, _, rfl⟩ := h
  unfold textT
  split
  · rw [strB_size]; decide
  · unfold textS
    split
    · rw [strB_size]; exact Nat.zero_le _
    · split
      · rw [strB_size, List.length_cons]; omega
      · rw [strB_size]; omega
theorem toldN_any (B : Nat) (z : Value) (x : Int) (w : World) (h : IsN B w z x) (hB : B ≤ w.heap.size) :
    Calls Tryz.prog 37 #[z] w fun e w' => ∃ u, e = .returned (.string u) ∧ IsText x u ∧ Below w.heap.size w w' := by
  obtain ⟨neg, l, hz, hx⟩ := h
  refine (l1Told_any B z neg l w hz hB).mono ?_
  rintro e w' ⟨rfl, hb⟩
  exact ⟨_, rfl, ⟨neg, l, hz.1, hz.2.1, hx, rfl⟩, hb⟩
theorem isNeg_at (q : ByteArray) (h : 0 < q.size) : ((q[0].toNat : Int) == 45) = isNeg q := by
  unfold isNeg
  have e : (q.extract 0 1).toList = [q[0]] := by
    rw [ByteArray.toList_eq, ByteArray.data_extract, Array.toList_extract]
    show (q.data.toList.drop 0).take (1 - 0) = [q[0]]
    have hl : 0 < q.data.toList.length := by simpa using h
    cases hq : q.data.toList with
    | nil => rw [hq] at hl; simp at hl
    | cons c l =>
      have : q[0] = c := by
        have h1 : q.data.toList[0]? = some q[0] := by rw [List.getElem?_eq_getElem hl]; rfl
        rw [hq] at h1
        simpa using h1.symm
      rw [this]; rfl
  rw [e]
  by_cases hc : q[0] = 45
  · rw [hc]; rfl
  · have h1 : ((q[0].toNat : Int) == 45) = false := by
      rw [beq_eq_false_iff_ne]
      intro e2
      exact hc (UInt8.toNat_inj.1 (by have e3 : (45 : UInt8).toNat = 45 := rfl; omega))
    have h2 : ([q[0]] == [45]) = false := by simp [hc]
    rw [h1, h2]
theorem eqB (a : ByteArray) (c : UInt8) : (a.toList == [c]) = decide (a = strB [c]) := by
  have : (strB [c]).toList = [c] := by rw [ByteArray.toList_eq]; rfl
  have h := toList_inj (a := a) (b := strB [c])
  rw [this] at h
  exact h
set_option maxRecDepth 100000 in
set_option maxHeartbeats 2000000 in
theorem specIsRat_any (s : ByteArray) (w : World) (hs : s.size ≤ maxLen) :
    Calls Tryz.prog 22 #[.string s] w fun e w' => ∃ b, e = .returned (.bool b) ∧ IsRatB s b ∧ Below w.heap.size w w' := by
  obtain ⟨k, hk⟩ := isCut_ex s
  have HK := hidG hk
  clear hk
  cases k with
  | none =>
    go_enter Tryz.func22, Tryz.ntmps22
    go_wp2_with fail
    refine (l2Cut_any s none _ hs HK.out).mono ?_
    rintro e w' ⟨rfl, hw'⟩
    subst hw'
    have e1 : cutI none = -1 := rfl
    rw [e1]
    go_wp2_with fail
    refine (isInt_spec s _ hs).mono ?_
    rintro e w2 ⟨rfl, hw2⟩
    subst hw2
    obtain ⟨b, hb⟩ : ∃ b, isIntB s = b := ⟨_, rfl⟩
    have HB := hidG hb
    rw [hb]
    clear hb
    go_wp2
    go_ret
    refine ⟨_, rfl, ⟨none, HK.out, ?_⟩, Below.refl _ _⟩
    constructor
    · intro e; exact ⟨numT s, 1, HB.out.trans e, rfl, rfl⟩
    · rintro ⟨x, y, h, _⟩; rw [← HB.out]; exact h
  | some i =>
    have hi := isCut_lt HK.out
    have hcp : s.extract 0 i = cutP s (some i) := rfl
    have hcq : s.extract (i + 1) s.size = cutQ s (some i) := rfl
    obtain ⟨p, hp⟩ : ∃ p, cutP s (some i) = p := ⟨_, rfl⟩
    obtain ⟨q, hq⟩ : ∃ q, cutQ s (some i) = q := ⟨_, rfl⟩
    have HPQ : Hid (cutP s (some i) = p ∧ cutQ s (some i) = q) := ⟨hp, hq⟩
    rw [hp] at hcp
    rw [hq] at hcq
    have hps : p.size ≤ maxLen := by rw [← hcp, ByteArray.size_extract]; omega
    have hqs : q.size ≤ maxLen := by rw [← hcq, ByteArray.size_extract]; omega
    have HSZ : Hid (p.size ≤ maxLen ∧ q.size ≤ maxLen) := ⟨hps, hqs⟩
    unfold maxLen at hs
    clear hp hq hps hqs
    go_enter Tryz.func22, Tryz.ntmps22
    go_wp2_with fail
    refine (l2Cut_any s (some i) _ (by unfold maxLen; exact hs) HK.out).mono ?_
    rintro e w' ⟨rfl, hw'⟩
    subst hw'
    have e1 : cutI (some i) = (i : Int) := rfl
    rw [e1]
    have HNOT : Hid ((¬ ∃ x y, RatV s (some i) x y) → IsRatB s false) := fun h => ⟨some i, HK.out, ⟨(fun e => by cases e), fun hx => (h hx).elim⟩⟩
    go_wp2_with fail
    refine (isInt_spec p _ HSZ.out.1).mono ?_
    rintro e w2 ⟨rfl, hw2⟩
    subst hw2
    cases hip : isIntB p
    · have HIP := hidG hip
      clear hip
      have HF : Hid (IsRatB s false) := HNOT.out (fun ⟨x, y, h⟩ => by
        have h1 := h.1.1
        rw [HPQ.out.1, HIP.out] at h1
        cases h1)
      go_wp2
      go_ret
      exact ⟨false, rfl, HF.out, Below.refl _ _⟩
    have HIP := hidG hip
    clear hip
    go_wp2_with fail
    refine (isInt_spec q _ HSZ.out.2).mono ?_
    rintro e w3 ⟨rfl, hw3⟩
    subst hw3
    cases hiq : isIntB q
    · have HIQ := hidG hiq
      clear hiq
      have HF : Hid (IsRatB s false) := HNOT.out (fun ⟨x, y, h⟩ => by
        have h1 := h.1.2
        rw [HPQ.out.2, HIQ.out] at h1
        cases h1)
      go_wp2
      go_ret
      exact ⟨false, rfl, HF.out, Below.refl _ _⟩
    have HIQ := hidG hiq
    clear hiq
    cases hp0 : (p.toList == [48])
    case true =>
      have HP0 := hidG hp0
      have HF : Hid (IsRatB s false) := HNOT.out (fun ⟨x, y, h⟩ => by
        have h1 := h.2.1.2.1
        rw [HPQ.out.1] at h1
        exact h1 (of_decide_eq_true ((eqB p 48).symm.trans HP0.out)))
      go_wp2
      go_ret
      exact ⟨false, rfl, HF.out, Below.refl _ _⟩
    case false =>
    have HP0 := hidG hp0
    cases hq0 : (q.toList == [48])
    case true =>
      have HQ0 := hidG hq0
      have HF : Hid (IsRatB s false) := HNOT.out (fun ⟨x, y, h⟩ => by
        have h1 := h.2.1.1
        rw [HPQ.out.2, of_decide_eq_true ((eqB q 48).symm.trans HQ0.out)] at h1
        exact h1 num_nil)
      go_wp2
      go_ret
      exact ⟨false, rfl, HF.out, Below.refl _ _⟩
    case false =>
    have HQ0 := hidG hq0
    cases hq1 : (q.toList == [49])
    case true =>
      have HQ1 := hidG hq1
      have HF : Hid (IsRatB s false) := HNOT.out (fun ⟨x, y, h⟩ => by
        have h1 := h.2.1.2.2.1
        rw [HPQ.out.2] at h1
        exact h1 (of_decide_eq_true ((eqB q 49).symm.trans HQ1.out)))
      go_wp2
      go_ret
      exact ⟨false, rfl, HF.out, Below.refl _ _⟩
    case false =>
    have HQ1 := hidG hq1
    have hqp : 0 < q.size := Nat.pos_of_ne_zero fun h => text_ne q HIQ.out (ByteArray.ext (by
      have : q.data.size = 0 := h
      rw [Array.eq_empty_of_size_eq_zero this]
      rfl))
    have hat := isNeg_at q hqp
    cases hneg : isNeg q
    case true =>
      have HNG := hidG hneg
      rw [hneg] at hat
      have HF : Hid (IsRatB s false) := HNOT.out (fun ⟨x, y, h⟩ => by
        have h1 := h.2.1.2.2.2.1
        rw [HPQ.out.2, HNG.out] at h1
        cases h1)
      go_wp2
      go_ret
      exact ⟨false, rfl, HF.out, Below.refl _ _⟩
    case false =>
    have HNG := hidG hneg
    rw [hneg] at hat
    clear hneg
    have HLL : Hid ((lim p).length ≤ 100000 ∧ (lim q).length ≤ 100000) := ⟨by have := lim_len' p HIP.out; omega, by have := lim_len' q HIQ.out; omega⟩
    obtain ⟨w0, hw0⟩ : ∃ w0 : World, w0 = w3 := ⟨_, rfl⟩
    have HW0 := hidG hw0
    clear hw0
    go_wp2_with fail
    refine (l1Read_any p _ HIP.out).mono ?_
    rintro e w4 ⟨z1, rfl, hz1, hb4⟩
    have HZ1 : Hid (IsZ w3.heap.size w4 z1 (isNeg p) (lim p)) := hz1
    have HB4 : Hid (Below w3.heap.size w3 w4) := hb4
    clear hz1 hb4
    go_wp2_with fail
    refine (l1Read_any q _ HIQ.out).mono ?_
    rintro e w5 ⟨z2, rfl, hz2, hb5⟩
    have HZ2 : Hid (IsZ w3.heap.size w5 z2 (isNeg q) (lim q)) := hz2.mono HB4.out.size
    have HZ1' : Hid (IsZ w3.heap.size w5 z1 (isNeg p) (lim p)) := HZ1.out.below hb5
    have HB5 : Hid (Below w3.heap.size w3 w5) := HB4.out.trans (hb5.mono HB4.out.size)
    clear hz2 hb5
    go_wp2_with fail
    refine (l1Gcd_any _ z1 z2 _ _ _ _ 100000 _ HB5.out.size HZ1'.out HZ2.out HLL.out.1 HLL.out.2 (Nat.le_refl _)).mono ?_
    rintro e w6 ⟨z3, rfl, hn3, hb6⟩
    obtain ⟨g0, gn, ga, gl, gc, rfl⟩ := hn3.shape
    have HONE := hidG (isN_one hn3)
    have HB6 : Hid (Below w3.heap.size w3 w6) := HB5.out.trans (hb6.mono HB5.out.size)
    obtain ⟨W7, hW7⟩ : ∃ W7, w6.alloc (.cells #[.int .i64 g0, .bool gn, .slice ga gl gc] 53) = W7 := ⟨_, rfl⟩
    have HW7 := hidG hW7
    have hb7 : Below w6.heap.size w6 W7 := by rw [← hW7]; exact below_alloc _ _
    have hgx : Bx W7 w6.heap.size [.int .i64 g0, .bool gn, .slice ga gl gc] := by rw [← hW7]; exact bx_new w6 _ _
    have HB7 : Hid (Below w3.heap.size w3 W7) := HB6.out.trans (hb7.mono HB6.out.size)
    have HGX : Hid (∀ W, Below W7.heap.size W7 W → Bx W w6.heap.size [.int .i64 g0, .bool gn, .slice ga gl gc]) := fun W hW => hgx.below hgx.lt hW
    have k0 := hgx.cell 0
    have k1 := hgx.cell 1
    have k2 := hgx.cell 2
    simp only [List.getElem?_cons_zero, List.getElem?_cons_succ] at k0 k1 k2
    have HRES : Hid (∀ r, decide (gcdI (sg (isNeg p) (val (lim p))) (sg (isNeg q) (val (lim q))) = 1) = r → IsRatB s r) := fun r hr => by
      refine ⟨some i, HK.out, ?_⟩
      rw [← hr, decide_eq_true_eq]
      have hg : gcdI (sg (isNeg p) (val (lim p))) (sg (isNeg q) (val (lim q))) = ((Int.gcd (numT p) (numT q) : Nat) : Int) := rfl
      rw [hg]
      constructor
      · intro h1
        refine ⟨numT p, numT q, ?_⟩
        show (isIntB (cutP s (some i)) = true ∧ isIntB (cutQ s (some i)) = true) ∧ _
        rw [HPQ.out.1, HPQ.out.2]
        refine ⟨⟨HIP.out, HIQ.out⟩, ⟨?_, ?_, ?_, HNG.out, by omega⟩, rfl, rfl⟩
        · intro h2
          have h3 := numT_inj q (strB [48]) HIQ.out (by kernel_rfl) (by rw [h2, num_nil])
          have h4 := (eqB q 48).symm.trans HQ0.out
          exact (of_decide_eq_false h4) h3
        · exact of_decide_eq_false ((eqB p 48).symm.trans HP0.out)
        · exact of_decide_eq_false ((eqB q 49).symm.trans HQ1.out)
      · rintro ⟨x, y, _, ⟨_, _, _, _, h5⟩, _⟩
        rw [HPQ.out.1, HPQ.out.2] at h5
        rw [h5]; rfl
    clear hn3 hb6 hW7 hb7 hgx
    go_upto_region 10 with fail
    rw [HW7.out]
    refine (l1IsSmall_ex g0 gn ga gl gc W7).mono ?_
    rintro e w8 ⟨rfl, hw8⟩
    have hb8 : Below W7.heap.size W7 w8 := by rw [hw8]; exact below_alloc _ _
    have HB8 : Hid (Below w3.heap.size w3 w8) := HB7.out.trans (hb8.mono HB7.out.size)
    have hx8 := HGX.out w8 hb8
    have j0 := hx8.cell 0
    simp only [List.getElem?_cons_zero] at j0
    clear hw8 hb8 hx8 k0 k1 k2
    by_cases hz : gl = 0
    · have z : ((gl : Int) == 0) = true := by rw [beq_iff_eq]; omega
      have HE : Hid ((g0 == 1) = decide (gcdI (sg (isNeg p) (val (lim p))) (sg (isNeg q) (val (lim q))) = 1)) := by
        have h := HONE.out
        rw [z] at h
        exact h
      rw [z]
      go_wp2
      go_ret
      exact ⟨_, rfl, HRES.out _ HE.out.symm, HB8.out⟩
    · have z : ((gl : Int) == 0) = false := by rw [beq_eq_false_iff_ne]; omega
      have HE : Hid (decide (gcdI (sg (isNeg p) (val (lim p))) (sg (isNeg q) (val (lim q))) = 1) = false) := by
        have h := HONE.out
        rw [z] at h
        exact h.symm
      rw [z]
      go_wp2
      go_ret
      exact ⟨_, rfl, HRES.out _ HE.out, HB8.out⟩
theorem full_size (ng : Bool) (t : List Nat) (h : t.length ≤ 600) : (fullT ng t).size ≤ 6000 := by
  have h1 := textD_len t
  unfold fullT
  split
  · rw [strB_size]; decide
  · split
    · rw [strB_size, List.length_cons]; omega
    · rw [strB_size]; omega
set_option maxRecDepth 100000 in
set_option maxHeartbeats 1000000 in
theorem l2Text_any (B : Nat) (p0 : Int) (pn : Bool) (pa : Option Addr) (pl pc : Nat) (q0 : Int) (qn : Bool) (qa : Option Addr) (ql qc : Nat) (n1 n2 : Bool) (t1 t2 : List Nat) (x y : Int) (w : World) (hBw : B ≤ w.heap.size)
    (hQ : IsQN B w (.agg #[.int .i64 p0, .bool pn, .slice pa pl pc, .int .i64 q0, .bool qn, .slice qa ql qc]) x y)
    (hz1 : IsZ B w (.agg #[.int .i64 p0, .bool pn, .slice pa pl pc]) n1 t1) (hz2 : IsZ B w (.agg #[.int .i64 q0, .bool qn, .slice qa ql qc]) n2 t2) (h1 : t1.length ≤ 600) (h2 : t2.length ≤ 600) :
    Calls Tryz.prog 19 #[.agg #[.int .i64 p0, .bool pn, .slice pa pl pc, .int .i64 q0, .bool qn, .slice qa ql qc]] w fun e w' => e = .returned (.string (if y = 1 then fullT (negOf n1 t1) t1 else fullT (negOf n1 t1) t1 ++ ⟨#[47]⟩ ++ fullT (negOf n2 t2) t2)) ∧ Below w.heap.size w w' := by
  have HZ1 := hidG hz1
  have HZ2 := hidG hz2
  have HBW := hidG hBw
  have HQN := hidG hQ
  clear hz1 hz2 hBw hQ
  obtain ⟨W0, hW0⟩ : ∃ W0, w.alloc (.cells #[.int .i64 p0, .bool pn, .slice pa pl pc, .int .i64 q0, .bool qn, .slice qa ql qc] 55) = W0 := ⟨_, rfl⟩
  have HW0 := hidG hW0
  have HB0 : Hid (Below w.heap.size w W0) := by show Below w.heap.size w W0; rw [← hW0]; exact below_alloc _ _
  have hx1 : Bx W0 w.heap.size [.int .i64 p0, .bool pn, .slice pa pl pc, .int .i64 q0, .bool qn, .slice qa ql qc] := by rw [← hW0]; exact bx_new w _ _
  have HX : Hid (∀ W, Below W0.heap.size W0 W → Bx W w.heap.size [.int .i64 p0, .bool pn, .slice pa pl pc, .int .i64 q0, .bool qn, .slice qa ql qc]) := fun W hW => hx1.below hx1.lt hW
  have k0 := hx1.cell 0
  have k1 := hx1.cell 1
  have k2 := hx1.cell 2
  have k3 := hx1.cell 3
  have k4 := hx1.cell 4
  have k5 := hx1.cell 5
  simp only [List.getElem?_cons_zero, List.getElem?_cons_succ] at k0 k1 k2 k3 k4 k5
  clear hW0 hx1
  have REST : Hid (∀ W1, Below W0.heap.size W0 W1 → Calls Tryz.prog 41 #[.agg #[.int .i64 p0, .bool pn, .slice pa pl pc]] W1 (fun e w' => e = .returned (.string (fullT (negOf n1 t1) t1)) ∧ Below W1.heap.size W1 w')) := fun W1 hW1 =>
    l1Text_any B _ n1 t1 W1 (HZ1.out.below (HB0.out.trans (hW1.mono HB0.out.size))) (by have := HBW.out; have := HB0.out.size; have := hW1.size; omega) h1
  have REST2 : Hid (∀ W1, Below W0.heap.size W0 W1 → Calls Tryz.prog 41 #[.agg #[.int .i64 q0, .bool qn, .slice qa ql qc]] W1 (fun e w' => e = .returned (.string (fullT (negOf n2 t2) t2)) ∧ Below W1.heap.size W1 w')) := fun W1 hW1 =>
    l1Text_any B _ n2 t2 W1 (HZ2.out.below (HB0.out.trans (hW1.mono HB0.out.size))) (by have := HBW.out; have := HB0.out.size; have := hW1.size; omega) h2
  have HS1 : Hid ((fullT (negOf n1 t1) t1).size ≤ 6000) := full_size _ _ h1
  have HS2 : Hid ((fullT (negOf n2 t2) t2).size ≤ 6000) := full_size _ _ h2
  obtain ⟨f1, hf1⟩ : ∃ f, fullT (negOf n1 t1) t1 = f := ⟨_, rfl⟩
  obtain ⟨f2, hf2⟩ : ∃ f, fullT (negOf n2 t2) t2 = f := ⟨_, rfl⟩
  rw [hf1] at REST HS1 ⊢
  rw [hf2] at REST2 HS2 ⊢
  clear hf1 hf2
  go_enter Tryz.func19, Tryz.ntmps19
  go_upto_region 1 with fail
  rw [HW0.out]
  go_wp2_with fail
  refine (l2Whole_any B _ x y W0 (by have := HBW.out; have := HB0.out.size; omega) (HQN.out.below HB0.out)).mono ?_
  rintro e w1 ⟨rfl, hb1⟩
  have HQ1 := hidG hb1
  have hx := HX.out w1 hb1
  clear hb1 k0 k1 k2 k3 k4 k5
  have k0 := hx.cell 0
  have k1 := hx.cell 1
  have k2 := hx.cell 2
  have k3 := hx.cell 3
  have k4 := hx.cell 4
  have k5 := hx.cell 5
  simp only [List.getElem?_cons_zero, List.getElem?_cons_succ] at k0 k1 k2 k3 k4 k5
  clear hx
  by_cases hy : y = 1
  · have z : decide (y = 1) = true := decide_eq_true hy
    have HY := hidG hy
    rw [z]
    clear z hy
    go_wp2_with fail
    refine (REST.out w1 HQ1.out).mono ?_
    rintro e w2 ⟨rfl, hb⟩
    have HB9 := hidG (HB0.out.trans ((HQ1.out.trans (hb.mono HQ1.out.size)).mono HB0.out.size))
    clear hb k0 k1 k2 k3 k4 k5
    go_wp2
    go_ret
    exact ⟨by first | rfl | (rw [if_pos HY.out]; rfl), HB9.out⟩
  · have z : decide (y = 1) = false := decide_eq_false hy
    have HY := hidG hy
    rw [z]
    clear z hy
    have e47 : (⟨#[47]⟩ : ByteArray).size = 1 := rfl
    have hs1 := HS1.out
    have hs2 := HS2.out
    have hc1 : (f1 ++ (⟨#[47]⟩ : ByteArray)).size ≤ 7000 := by rw [ByteArray.size_append]; omega
    have hc2 : (f1 ++ (⟨#[47]⟩ : ByteArray) ++ f2).size ≤ 14000 := by rw [ByteArray.size_append]; omega
    go_wp2_with fail
    go_region_with (first
      | (go_at_call_of 41 (Value.int IntKind.i64 p0); refine (REST.out _ ?_).mono ?_
         · exact HQ1.out.drew
         rintro e wa ⟨rfl, hba⟩
         have HQ2 : Hid (Below W0.heap.size W0 wa) := HQ1.out.drew.trans (hba.mono HQ1.out.size)
         have hx := HX.out wa HQ2.out
         have m3 := hx.cell 3
         have m4 := hx.cell 4
         have m5 := hx.cell 5
         simp only [List.getElem?_cons_zero, List.getElem?_cons_succ] at m3 m4 m5
         clear hx hba)
      | (go_at_call_of 41 (Value.int IntKind.i64 q0); refine (REST2.out _ ?_).mono ?_
         · exact HQ2.out
         rintro e wb ⟨rfl, hbb⟩
         have HQ3 : Hid (Below W0.heap.size W0 wb) := HQ2.out.trans (hbb.mono HQ2.out.size)
         clear hbb))
    all_goals
      go_wp2
      go_ret
      exact ⟨by first | rfl | (rw [if_neg HY.out]; rfl), HB0.out.trans (HQ3.out.mono HB0.out.size)⟩
theorem ratV_lt {s : ByteArray} {k : Option Nat} {x y : Int} (h : RatV s k x y) : x.natAbs < lb 280 ∧ y.natAbs < lb 280 ∧ 0 < y := by
  cases k with
  | none =>
    refine ⟨by rw [h.2.1]; exact numT_lt s h.1, ?_, by rw [h.2.2]; decide⟩
    rw [h.2.2]
    exact lb_one 280 (by decide)
  | some i =>
    refine ⟨by rw [h.2.2.1]; exact numT_lt _ h.1.1, by rw [h.2.2.2]; exact numT_lt _ h.1.2, ?_⟩
    have h1 := numT_pos _ h.2.1.2.2.2.1
    have h2 := h.2.1.1
    rw [h.2.2.2]
    omega
theorem l1CmpN_any (B : Nat) (za zb : Value) (x y : Int) (w : World) (hBw : B ≤ w.heap.size) (ha : IsN B w za x) (hb : IsN B w zb y) :
    Calls Tryz.prog 74 #[za, zb] w fun e w' => e = .returned (.int .i64 (ordI x y)) ∧ Below w.heap.size w w' := by
  obtain ⟨na, a, hza, rfl⟩ := ha
  obtain ⟨nb, b, hzb, rfl⟩ := hb
  refine (l1Cmp_any B za zb na nb a b w hBw hza hzb).mono ?_
  rintro e w' ⟨rfl, hb⟩
  exact ⟨by rw [cmpI_ord na nb a b hza.1 hzb.1 hza.2.1 hzb.2.1], hb⟩
set_option maxRecDepth 100000 in
set_option maxHeartbeats 4000000 in
theorem l2Cmp_any (B : Nat) (za zd : Value) (x1 y1 x2 y2 : Int) (w : World) (hBw : B ≤ w.heap.size) (ha : IsQN B w za x1 y1) (hd : IsQN B w zd x2 y2) :
    Calls Tryz.prog 54 #[za, zd] w fun e w' => e = .returned (.int .i64 (ordI (x1 * y2) (x2 * y1))) ∧ Below w.heap.size w w' := by
  have HQA := hidG ha
  have HQD := hidG hd
  obtain ⟨a0, an, aa, al, ac, b0, bn, ba, bl, bc, rfl, h1, h2⟩ := ha
  obtain ⟨d0, dn, da, dl, dc, e0, en, ea, el, ec, rfl, h3, h4⟩ := hd
  have H1 := hidG h1
  have H2 := hidG h2
  have H3 := hidG h3
  have H4 := hidG h4
  have HBW := hidG hBw
  clear h1 h2 h3 h4 hBw
  obtain ⟨W0, hW0⟩ : ∃ W0, (w.alloc (.cells #[.int .i64 a0, .bool an, .slice aa al ac, .int .i64 b0, .bool bn, .slice ba bl bc] 55)).alloc (.cells #[.int .i64 d0, .bool dn, .slice da dl dc, .int .i64 e0, .bool en, .slice ea el ec] 55) = W0 := ⟨_, rfl⟩
  have HW0 := hidG hW0
  have HB0 : Hid (Below w.heap.size w W0) := by show Below w.heap.size w W0; rw [← hW0]; exact below_al (below_alloc _ _) _
  have hx0 : BxS w.heap.size W0 a0 an aa al ac b0 bn ba bl bc d0 dn da dl dc e0 en ea el ec := by
    refine ⟨?_, ?_⟩
    · rw [← hW0]; exact (bx_new w _ _).alloc _
    · rw [← hW0]
      have h := bx_new (w.alloc (.cells #[.int .i64 a0, .bool an, .slice aa al ac, .int .i64 b0, .bool bn, .slice ba bl bc] 55)) [.int .i64 d0, .bool dn, .slice da dl dc, .int .i64 e0, .bool en, .slice ea el ec] 55
      rw [World.size_alloc] at h
      exact h
  have HX : Hid (∀ W, Below W0.heap.size W0 W → BxS w.heap.size W a0 an aa al ac b0 bn ba bl bc d0 dn da dl dc e0 en ea el ec) := fun W hW => hx0.below hx0.b.lt hW
  have T1 : Hid (∀ W, Below W0.heap.size W0 W → Calls Tryz.prog 78 #[.agg #[.int .i64 a0, .bool an, .slice aa al ac], .agg #[.int .i64 e0, .bool en, .slice ea el ec]] W (fun e w' => ∃ z, e = .returned z ∧ IsN 0 w' z (x1 * y2) ∧ Below W.heap.size W w')) := fun W hW =>
    l1MulN_any B _ _ _ _ 1000 1000 W (by have := HBW.out; have := HB0.out.size; have := hW.size; omega) ((H1.out.below HB0.out).below hW) ((H4.out.below HB0.out).below hW) (by omega) (by omega)
  have T2 : Hid (∀ W, Below W0.heap.size W0 W → Calls Tryz.prog 78 #[.agg #[.int .i64 d0, .bool dn, .slice da dl dc], .agg #[.int .i64 b0, .bool bn, .slice ba bl bc]] W (fun e w' => ∃ z, e = .returned z ∧ IsN 0 w' z (x2 * y1) ∧ Below W.heap.size W w')) := fun W hW =>
    l1MulN_any B _ _ _ _ 1000 1000 W (by have := HBW.out; have := HB0.out.size; have := hW.size; omega) ((H3.out.below HB0.out).below hW) ((H2.out.below HB0.out).below hW) (by omega) (by omega)
  have HC : Hid (∀ W, Below W0.heap.size W0 W → Calls Tryz.prog 74 #[.agg #[.int .i64 a0, .bool an, .slice aa al ac], .agg #[.int .i64 d0, .bool dn, .slice da dl dc]] W (fun e w' => e = .returned (.int .i64 (ordI x1 x2)) ∧ Below W.heap.size W w')) := fun W hW =>
    l1CmpN_any B _ _ _ _ W (by have := HBW.out; have := HB0.out.size; have := hW.size; omega) ((H1.out.below HB0.out).below hW).isN ((H3.out.below HB0.out).below hW).isN
  have k0 := hx0.a.cell 0
  have k1 := hx0.a.cell 1
  have k2 := hx0.a.cell 2
  have k3 := hx0.a.cell 3
  have k4 := hx0.a.cell 4
  have k5 := hx0.a.cell 5
  simp only [List.getElem?_cons_zero, List.getElem?_cons_succ] at k0 k1 k2 k3 k4 k5
  have j0 := hx0.b.cell 0
  have j1 := hx0.b.cell 1
  have j2 := hx0.b.cell 2
  have j3 := hx0.b.cell 3
  have j4 := hx0.b.cell 4
  have j5 := hx0.b.cell 5
  simp only [List.getElem?_cons_zero, List.getElem?_cons_succ] at j0 j1 j2 j3 j4 j5
  clear hW0 hx0
  go_enter Tryz.func54, Tryz.ntmps54
  go_upto_region 1 with fail
  rw [HW0.out]
  go_wp2_with fail
  refine (l2Whole_any B _ x1 y1 W0 (by have := HBW.out; have := HB0.out.size; omega) (HQA.out.below HB0.out)).mono ?_
  rintro e w1 ⟨rfl, hb1⟩
  have HQ1 := hidG hb1
  have hx := HX.out w1 hb1
  clear hb1 k0 k1 k2 k3 k4 k5 j0 j1 j2 j3 j4 j5
  have k0 := hx.a.cell 0
  have k1 := hx.a.cell 1
  have k2 := hx.a.cell 2
  have k3 := hx.a.cell 3
  have k4 := hx.a.cell 4
  have k5 := hx.a.cell 5
  simp only [List.getElem?_cons_zero, List.getElem?_cons_succ] at k0 k1 k2 k3 k4 k5
  have j0 := hx.b.cell 0
  have j1 := hx.b.cell 1
  have j2 := hx.b.cell 2
  have j3 := hx.b.cell 3
  have j4 := hx.b.cell 4
  have j5 := hx.b.cell 5
  simp only [List.getElem?_cons_zero, List.getElem?_cons_succ] at j0 j1 j2 j3 j4 j5
  clear hx
  by_cases hy1 : y1 = 1
  · have z : decide (y1 = 1) = true := decide_eq_true hy1
    have HY1 := hidG hy1
    rw [z]
    clear z hy1
    go_wp2_with fail
    refine (l2Whole_any B _ x2 y2 w1 (by have := HBW.out; have := HB0.out.size; have := HQ1.out.size; omega) ((HQD.out.below HB0.out).below HQ1.out)).mono ?_
    rintro e w2 ⟨rfl, hb2⟩
    have HQ2 := hidG (HQ1.out.trans (hb2.mono HQ1.out.size))
    have hx := HX.out w2 HQ2.out
    clear hb2 k0 k1 k2 k3 k4 k5 j0 j1 j2 j3 j4 j5
    have k0 := hx.a.cell 0
    have k1 := hx.a.cell 1
    have k2 := hx.a.cell 2
    have k3 := hx.a.cell 3
    have k4 := hx.a.cell 4
    have k5 := hx.a.cell 5
    simp only [List.getElem?_cons_zero, List.getElem?_cons_succ] at k0 k1 k2 k3 k4 k5
    have j0 := hx.b.cell 0
    have j1 := hx.b.cell 1
    have j2 := hx.b.cell 2
    have j3 := hx.b.cell 3
    have j4 := hx.b.cell 4
    have j5 := hx.b.cell 5
    simp only [List.getElem?_cons_zero, List.getElem?_cons_succ] at j0 j1 j2 j3 j4 j5
    clear hx
    by_cases hy2 : y2 = 1
    · have z : decide (y2 = 1) = true := decide_eq_true hy2
      have HE : Hid (ordI x1 x2 = ordI (x1 * y2) (x2 * y1)) := by show ordI x1 x2 = ordI (x1 * y2) (x2 * y1); rw [HY1.out, hy2, Int.mul_one, Int.mul_one]
      rw [z]
      clear z hy2
      go_wp2_with fail
      refine (HC.out w2 HQ2.out).mono ?_
      rintro e w3 ⟨rfl, hb3⟩
      have HB9 := hidG (HB0.out.trans ((HQ2.out.trans (hb3.mono HQ2.out.size)).mono HB0.out.size))
      clear hb3 k0 k1 k2 k3 k4 k5 j0 j1 j2 j3 j4 j5
      go_wp2
      go_ret
      exact ⟨ret_int HE.out, HB9.out⟩
    · have z : decide (y2 = 1) = false := decide_eq_false hy2
      rw [z]
      clear z hy2
      go_wp2_with fail
      go_region_held3 (fun W => W.cell? ⟨w.heap.size, 0, none⟩ = some (.int .i64 a0) ∧ W.cell? ⟨w.heap.size, 1, none⟩ = some (.bool an) ∧ W.cell? ⟨w.heap.size, 2, none⟩ = some (.slice aa al ac) ∧ W.cell? ⟨w.heap.size, 3, none⟩ = some (.int .i64 b0) ∧ W.cell? ⟨w.heap.size, 4, none⟩ = some (.bool bn) ∧ W.cell? ⟨w.heap.size, 5, none⟩ = some (.slice ba bl bc) ∧ W.cell? ⟨w.heap.size + 1, 0, none⟩ = some (.int .i64 d0) ∧ W.cell? ⟨w.heap.size + 1, 1, none⟩ = some (.bool dn) ∧ W.cell? ⟨w.heap.size + 1, 2, none⟩ = some (.slice da dl dc) ∧ W.cell? ⟨w.heap.size + 1, 3, none⟩ = some (.int .i64 e0) ∧ W.cell? ⟨w.heap.size + 1, 4, none⟩ = some (.bool en) ∧ W.cell? ⟨w.heap.size + 1, 5, none⟩ = some (.slice ea el ec)) (first | assumption | go_keep) (first
        | (go_at_call_of 78 (Value.int IntKind.i64 a0)
           refine (T1.out _ ?_).mono ?_
           · exact HQ2.out.drew
           rintro e wa ⟨u, rfl, hu, hba⟩
           have HU := hidG hu
           have HBA : Hid (Below W0.heap.size W0 wa) := HQ2.out.drew.trans (hba.mono HQ2.out.size)
           have hSa := (HX.out wa HBA.out).held
           clear hu hba)
        | (go_at_call_of 78 (Value.int IntKind.i64 d0)
           refine (T2.out _ ?_).mono ?_
           · exact HBA.out
           rintro e wb ⟨v, rfl, hv, hbb⟩
           have HV := hidG hv
           have HBB := hidG (HBA.out.trans (hbb.mono HBA.out.size))
           have HU2 := hidG (HU.out.below hbb)
           have hSb := (HX.out wb HBB.out).held
           clear hv hbb)
        | (go_at_call 74
           refine (l1CmpN_any 0 _ _ _ _ _ (Nat.zero_le _) HU2.out HV.out).mono ?_
           rintro e wc ⟨rfl, hbc⟩
           have hSc := (HX.out wc (HBB.out.trans (hbc.mono HBB.out.size))).held
           have HBC := hidG (HB0.out.trans ((HBB.out.trans (hbc.mono HBB.out.size)).mono HB0.out.size))
           clear hbc))
      all_goals
        go_wp2
        go_ret
        exact ⟨rfl, HBC.out⟩
  · have z : decide (y1 = 1) = false := decide_eq_false hy1
    rw [z]
    clear z hy1
    go_wp2_with fail
    go_region_held3 (fun W => W.cell? ⟨w.heap.size, 0, none⟩ = some (.int .i64 a0) ∧ W.cell? ⟨w.heap.size, 1, none⟩ = some (.bool an) ∧ W.cell? ⟨w.heap.size, 2, none⟩ = some (.slice aa al ac) ∧ W.cell? ⟨w.heap.size, 3, none⟩ = some (.int .i64 b0) ∧ W.cell? ⟨w.heap.size, 4, none⟩ = some (.bool bn) ∧ W.cell? ⟨w.heap.size, 5, none⟩ = some (.slice ba bl bc) ∧ W.cell? ⟨w.heap.size + 1, 0, none⟩ = some (.int .i64 d0) ∧ W.cell? ⟨w.heap.size + 1, 1, none⟩ = some (.bool dn) ∧ W.cell? ⟨w.heap.size + 1, 2, none⟩ = some (.slice da dl dc) ∧ W.cell? ⟨w.heap.size + 1, 3, none⟩ = some (.int .i64 e0) ∧ W.cell? ⟨w.heap.size + 1, 4, none⟩ = some (.bool en) ∧ W.cell? ⟨w.heap.size + 1, 5, none⟩ = some (.slice ea el ec)) (first | assumption | go_keep) (first
      | (go_at_call_of 78 (Value.int IntKind.i64 a0)
         refine (T1.out _ ?_).mono ?_
         · exact HQ1.out.drew
         rintro e wa ⟨u, rfl, hu, hba⟩
         have HU := hidG hu
         have HBA : Hid (Below W0.heap.size W0 wa) := HQ1.out.drew.trans (hba.mono HQ1.out.size)
         have hSa := (HX.out wa HBA.out).held
         clear hu hba)
      | (go_at_call_of 78 (Value.int IntKind.i64 d0)
         refine (T2.out _ ?_).mono ?_
         · exact HBA.out
         rintro e wb ⟨v, rfl, hv, hbb⟩
         have HV := hidG hv
         have HBB := hidG (HBA.out.trans (hbb.mono HBA.out.size))
         have HU2 := hidG (HU.out.below hbb)
         have hSb := (HX.out wb HBB.out).held
         clear hv hbb)
      | (go_at_call 74
         refine (l1CmpN_any 0 _ _ _ _ _ (Nat.zero_le _) HU2.out HV.out).mono ?_
         rintro e wc ⟨rfl, hbc⟩
         have hSc := (HX.out wc (HBB.out.trans (hbc.mono HBB.out.size))).held
         have HBC := hidG (HB0.out.trans ((HBB.out.trans (hbc.mono HBB.out.size)).mono HB0.out.size))
         clear hbc))
    all_goals
      go_wp2
      go_ret
      exact ⟨rfl, HBC.out⟩
theorem keepsC6 (W : World) (g : Nat) (u0 u1 u2 u3 u4 u5 : Value) : Keeps g g W ((((((W.setCell ⟨g, 0, none⟩ (u0)).setCell ⟨g, 1, none⟩ (u1)).setCell ⟨g, 2, none⟩ (u2)).setCell ⟨g, 3, none⟩ (u3)).setCell ⟨g, 4, none⟩ (u4)).setCell ⟨g, 5, none⟩ (u5)) :=
  Keeps.setCell (Keeps.setCell (Keeps.setCell (Keeps.setCell (Keeps.setCell (Keeps.setCell (Keeps.refl g g W) ⟨g, 0, none⟩ u0 (Or.inl rfl)) ⟨g, 1, none⟩ u1 (Or.inl rfl)) ⟨g, 2, none⟩ u2 (Or.inl rfl)) ⟨g, 3, none⟩ u3 (Or.inl rfl)) ⟨g, 4, none⟩ u4 (Or.inl rfl)) ⟨g, 5, none⟩ u5 (Or.inl rfl)
theorem qn_mk {w : World} {a1 : Int} {n1 : Bool} {d1 : Option Addr} {l1 c1 : Nat} {a2 : Int} {n2 : Bool} {d2 : Option Addr} {l2 c2 : Nat} {x y : Int} (h1 : NumZ 0 w (.agg #[.int .i64 a1, .bool n1, .slice d1 l1 c1]) x 1000) (h2 : NumZ 0 w (.agg #[.int .i64 a2, .bool n2, .slice d2 l2 c2]) y 1000) : IsQN 0 w (.agg #[.int .i64 a1, .bool n1, .slice d1 l1 c1, .int .i64 a2, .bool n2, .slice d2 l2 c2]) x y := ⟨_, _, _, _, _, _, _, _, _, _, rfl, h1, h2⟩
set_option maxRecDepth 100000 in
set_option maxHeartbeats 2000000 in
theorem l2IntZ_any (w : World) :
    Calls Tryz.prog 51 #[.int .i64 0] w fun e w' => ∃ z, e = .returned z ∧ IsQN 0 w' z 0 1 ∧ Below w.heap.size w w' := by
  obtain ⟨W0, hW0⟩ : ∃ W0, w.alloc (.cells #[.int .i64 0, .bool false, .slice none 0 0, .int .i64 0, .bool false, .slice none 0 0] 55) = W0 := ⟨_, rfl⟩
  have HW0 := hidG hW0
  have HB0 : Hid (Below w.heap.size w W0) := by show Below w.heap.size w W0; rw [← hW0]; exact below_alloc _ _
  have HS0 : Hid (W0.heap.size = w.heap.size + 1) := by show W0.heap.size = _; rw [← hW0]; simp
  have hx0_0 : Bx W0 (w.heap.size) [.int .i64 0, .bool false, .slice none 0 0, .int .i64 0, .bool false, .slice none 0 0] := by
    rw [← hW0]
    exact bx_new w _ _
  have HX0 : Hid (∀ W, Below W0.heap.size W0 W → Bx W (w.heap.size) [.int .i64 0, .bool false, .slice none 0 0, .int .i64 0, .bool false, .slice none 0 0]) := fun W hW => hx0_0.below hx0_0.lt hW
  clear hW0 hx0_0
  go_enter Tryz.func51, Tryz.ntmps51
  go_upto_region 1 with fail
  rw [HW0.out]
  go_wp2_with fail
  refine (l1Small_any 0 _ (by decide) (by decide)).mono ?_
  rintro e w1 ⟨z1, rfl, hz1, hb1⟩
  obtain ⟨a1, n1, d1, l1, c1, rfl⟩ := hz1.shape'
  have HZ1 := hidG (hz1.mono' (B' := 0) (n' := 1000) (Nat.zero_le _) (by decide))
  have HC1 : Hid (Below W0.heap.size W0 w1) := hb1
  clear hz1 hb1
  go_wp2_with fail
  refine (l1Small_any 1 _ (by decide) (by decide)).mono ?_
  rintro e w2 ⟨z2, rfl, hz2, hb2⟩
  obtain ⟨a2, n2, d2, l2, c2, rfl⟩ := hz2.shape'
  have HZ2 := hidG (hz2.mono' (B' := 0) (n' := 1000) (Nat.zero_le _) (by decide))
  have HZ3 := hidG (HZ1.out.below hb2)
  have HC2 : Hid (Below W0.heap.size W0 w2) := HC1.out.trans (hb2.mono HC1.out.size)
  clear hz2 hb2
  have hbr := HX0.out w2 HC2.out
  have r0 := hbr.cell 0
  have r1 := hbr.cell 1
  have r2 := hbr.cell 2
  have r3 := hbr.cell 3
  have r4 := hbr.cell 4
  have r5 := hbr.cell 5
  simp only [List.getElem?_cons_zero, List.getElem?_cons_succ] at r0 r1 r2 r3 r4 r5
  have rf0 := hbr.frozen 0
  have rf1 := hbr.frozen 1
  have rf2 := hbr.frozen 2
  have rf3 := hbr.frozen 3
  have rf4 := hbr.frozen 4
  have rf5 := hbr.frozen 5
  clear hbr
  go_wp2
  have hbw := HX0.out w2 HC2.out
  have hnR : NoInt w2 (w.heap.size) := noInt_of hbw (by simp)
  have HK := keepsC6 w2 (w.heap.size) (.int .i64 a1) (.bool n1) (.slice d1 l1 c1) (.int .i64 a2) (.bool n2) (.slice d2 l2 c2)
  have hD1 := HZ3.out.keeps hnR hnR HK
  have hD2 := HZ2.out.keeps hnR hnR HK
  have hB9 : Below w.heap.size w ((((((w2.setCell ⟨w.heap.size, 0, none⟩ (.int .i64 a1)).setCell ⟨w.heap.size, 1, none⟩ (.bool n1)).setCell ⟨w.heap.size, 2, none⟩ (.slice d1 l1 c1)).setCell ⟨w.heap.size, 3, none⟩ (.int .i64 a2)).setCell ⟨w.heap.size, 4, none⟩ (.bool n2)).setCell ⟨w.heap.size, 5, none⟩ (.slice d2 l2 c2)) := (((((((HB0.out.trans (HC2.out.mono HB0.out.size)).setCell (p := ⟨w.heap.size, 0, none⟩) (by dsimp only; omega) (.int .i64 a1)).setCell (p := ⟨w.heap.size, 1, none⟩) (by dsimp only; omega) (.bool n1)).setCell (p := ⟨w.heap.size, 2, none⟩) (by dsimp only; omega) (.slice d1 l1 c1)).setCell (p := ⟨w.heap.size, 3, none⟩) (by dsimp only; omega) (.int .i64 a2)).setCell (p := ⟨w.heap.size, 4, none⟩) (by dsimp only; omega) (.bool n2)).setCell (p := ⟨w.heap.size, 5, none⟩) (by dsimp only; omega) (.slice d2 l2 c2))
  have hZ : Bx ((((((w2.setCell ⟨w.heap.size, 0, none⟩ (.int .i64 a1)).setCell ⟨w.heap.size, 1, none⟩ (.bool n1)).setCell ⟨w.heap.size, 2, none⟩ (.slice d1 l1 c1)).setCell ⟨w.heap.size, 3, none⟩ (.int .i64 a2)).setCell ⟨w.heap.size, 4, none⟩ (.bool n2)).setCell ⟨w.heap.size, 5, none⟩ (.slice d2 l2 c2)) (w.heap.size) [.int .i64 a1, .bool n1, .slice d1 l1 c1, .int .i64 a2, .bool n2, .slice d2 l2 c2] := ((((((hbw.set 0 (.int .i64 a1)).set 1 (.bool n1)).set 2 (.slice d1 l1 c1)).set 3 (.int .i64 a2)).set 4 (.bool n2)).set 5 (.slice d2 l2 c2))
  generalize (((((w2.setCell ⟨w.heap.size, 0, none⟩ (.int .i64 a1)).setCell ⟨w.heap.size, 1, none⟩ (.bool n1)).setCell ⟨w.heap.size, 2, none⟩ (.slice d1 l1 c1)).setCell ⟨w.heap.size, 3, none⟩ (.int .i64 a2)).setCell ⟨w.heap.size, 4, none⟩ (.bool n2)).setCell ⟨w.heap.size, 5, none⟩ (.slice d2 l2 c2) = W9 at *
  have v0 := hZ.cell 0
  have v1 := hZ.cell 1
  have v2 := hZ.cell 2
  have v3 := hZ.cell 3
  have v4 := hZ.cell 4
  have v5 := hZ.cell 5
  simp only [List.getElem?_cons_zero, List.getElem?_cons_succ] at v0 v1 v2 v3 v4 v5
  refine bodyPost_ret (v := .agg #[.int .i64 a1, .bool n1, .slice d1 l1 c1, .int .i64 a2, .bool n2, .slice d2 l2 c2]) ?_ rfl ⟨_, rfl, qn_mk hD1 hD2, hB9⟩
  simp [results, Tryz.results51, go_sem, v0, v1, v2, v3, v4, v5]
end Go.Proofs.YtknfmkeipeikkaaGreatDoor
namespace Go.Proofs.YtknfmkeipeikkaaGreatDoor.L
open Go.ChangeShapes Go.WideShapes Go.ChangeAt Go.RowKit
/-- A quotient behind a row of them. -/
theorem wpList_appQ {ops : Array Oper} {rest : List Oper} {o : Oper} {a : Act} {Q : Exit → Act → World → Prop} {W : World} {base : Nat} {v : Value} {N : List (Int × Int)} (hgd : o.guard = none) (s y : Operand)
    (ho : o.op = .call { callee := .builtin .append, args := #[s, y], argTypes := #[58, 58] }) (hs : a.eval s = v) (hown : QRow base W v N) {c0 c1 c2 c3 c4 c5 : Value} {x d : Int} (hz : Qz base W [c0, c1, c2, c3, c4, c5] x d v.ownBlock)
    (H : Nat) (hx : a.eval y = .slice (some ⟨H, 0, none⟩) 1 1) (hH : W.heap.size = H) (n : Nat) (hnl : N.length = n) (hn : n ≤ 1000000000) (hbase : base ≤ W.heap.size)
    (h : ∀ g cap W', QRow base W' (.slice (some ⟨g, 0, none⟩) (n + 1) cap) (N ++ [(x, d)]) → W.heap.size < W'.heap.size → W.grownBy W' v.ownBlock → wpList Tryz.prog ops Q rest (a.put o.dst (.slice (some ⟨g, 0, none⟩) (n + 1) cap)) W') :
    wpList Tryz.prog ops Q (o :: rest) a (W.alloc (.cells #[c0, c1, c2, c3, c4, c5] 55)) := by
  subst hH
  subst hnl
  obtain ⟨i0, hinf, hz0, hz1, hz2⟩ := info_q
  obtain ⟨xs, h1, h2⟩ := hown
  have hone : ∀ u ∈ [c0, c1, c2, c3, c4, c5], u.oneCell' = true := by
    obtain ⟨p0, pn, pa, pl, pc, q0, qn, qa, ql, qc, e⟩ := hz.shape
    rw [e]
    simp [Value.oneCell']
  refine wpList_append_lies _ hgd s y 58 ho base 55 i0 _ 6 80 Tryz.underlying58 hinf hz0 hz1 hz2 rfl (by decide) v N.length xs hs (h1.alloc _) ⟨W.heap.size, 0, none⟩ 1 1 [c0, c1, c2, c3, c4, c5] hx rfl
    (World.news_of_block (cs := #[c0, c1, c2, c3, c4, c5]) (t := 55) (fr := (0, 0)) (heap_alloc_new W _)) hone (by decide) (by unfold maxLen; omega) (by omega) (by simp; omega) _ rfl ?_
  intro g cap W' k1 k2 k3 k4
  have hsz : W.heap.size < W'.heap.size := by have := k2.size; simp at this; omega
  have hkeep : ∀ b, base ≤ b → b < W.heap.size → v.ownBlock ≠ some b → W'.heap[b]? = W.heap[b]? := fun b _ hb hne => by
    rw [k2.block b (by simp; omega) (by intro e; exact hne e.symm)]
    exact (below_alloc W _).block b hb
  have hgne : ∀ b, base ≤ b → b < W.heap.size → v.ownBlock ≠ some b → (Value.slice (some ⟨g, 0, none⟩) (N.length + 1) cap).ownBlock ≠ some b := fun b _ hb hne e => by
    have e : some g = some b := e
    injection e with e
    rcases k3 with k3 | k3
    · exact hne (by rw [k3, e])
    · simp at k3; omega
  have hgr : W.grownBy W' v.ownBlock := (World.grownBy_alloc W _ v.ownBlock).trans k2
  refine h g cap W' ⟨_, by rw [List.length_append]; exact k1, fun i hi => ?_⟩ hsz hgr
  rw [List.length_append] at hi
  have hx : xs.length = N.length * 6 := h1.1
  by_cases e : i < N.length
  · rw [List.getElem_append_left e, List.drop_append_of_le_length (by omega), List.take_append_of_le_length (by simp; omega)]
    exact (h2 i e).kept (Nat.le_of_lt hsz) hkeep hgne
  · have hie : i = N.length := by simp at hi; omega
    subst hie
    rw [List.drop_append_of_le_length (by omega), List.drop_eq_nil_of_le (by omega), List.nil_append, List.getElem_append_right (Nat.le_refl _)]
    simp only [Nat.sub_self, List.getElem_cons_zero]
    exact hz.kept (Nat.le_of_lt hsz) hkeep hgne
theorem IsWD.pos {Wh : List Bool} {C : List Int} {g : Int} (h : IsWD Wh C g) (h0 : g ≠ 0) : 0 < g := by
  rcases h with ⟨_, rfl⟩ | ⟨_, rfl⟩
  · exact absurd rfl h0
  · have := gcdK_pos C C.length
    omega
theorem OutR.lower {base base' : Nat} {W : World} {v : Value} {F : List Lr} {A : List Value} (h : OutR base W v F A) (hb : base' ≤ base) : OutR base' W v F A := ⟨h.len, own_lower h.own hb, fun i hi hi' => own_lower (h.rows i hi hi') hb, h.apart⟩
theorem Bx.f6 {W : World} {g : Nat} {l : List Value} (h : Bx W g l) : W.frozen? ⟨g, 0, none⟩ = false ∧ W.frozen? ⟨g, 1, none⟩ = false ∧ W.frozen? ⟨g, 2, none⟩ = false ∧ W.frozen? ⟨g, 3, none⟩ = false ∧ W.frozen? ⟨g, 4, none⟩ = false ∧ W.frozen? ⟨g, 5, none⟩ = false := ⟨h.frozen 0, h.frozen 1, h.frozen 2, h.frozen 3, h.frozen 4, h.frozen 5⟩
theorem step_appS {ops : Array Oper} {o : Oper} {a : Act} {K : Act → World → Prop} {Q : Exit → Act → World → Prop} {E : Prop} {W : World} {t : ByteArray} {base n : Nat} {v : Value} {xs : List Value} (hgd : o.guard = none) (s y : Operand)
    (ho : o.op = .call { callee := .builtin .append, args := #[s, y], argTypes := #[28, 28] }) (hs : a.eval s = v) (hown : W.ownsRow base 9 1 v n xs)
    (hx : a.eval y = .slice (some ⟨W.heap.size, 0, none⟩) 1 1) (hn : n ≤ 1000000000) (hbase : base ≤ W.heap.size)
    (h : ∀ g cap W', W'.ownsRow base 9 1 (.slice (some ⟨g, 0, none⟩) (n + 1) cap) (n + 1) (xs ++ [.string t]) → (W.alloc (.cells #[.string t] 9)).grownBy W' v.ownBlock → K (a.put o.dst (.slice (some ⟨g, 0, none⟩) (n + 1) cap)) W') :
    if Region.wanted o (yielded ops a.tmps) = true then Oper.wp Tryz.prog o a (W.alloc (.cells #[.string t] 9)) K Q else E := by
  obtain ⟨i0, hinf, hz0, hz1, hz2⟩ := info_str
  refine step_append_lies _ hgd s y 28 ho base 9 i0 (.string ⟨#[]⟩) 1 16 Tryz.underlying28 hinf hz0 hz1 hz2 rfl (by decide) v n xs hs (hown.alloc _) ⟨W.heap.size, 0, none⟩ 1 1 [.string t] hx rfl
    (World.news_of_block (cs := #[.string t]) (t := 9) (fr := (0, 0)) (heap_alloc_new W _)) (by simp [Value.oneCell']) (by decide) (by unfold maxLen; omega) (by omega) (by simp; omega) _ rfl ?_
  intro g cap W' h1 h2 _ _
  exact h g cap W' h1 h2
theorem fullT_text (ng : Bool) (t : List Nat) (h : t.length ≤ 200) : fullT ng t = textT ng t := by
  have h1 := textD_len t
  unfold fullT textT textS
  by_cases h0 : t.length = 0
  · rw [if_pos h0, if_pos h0]
  · have h2 : ¬ 2500 < (textD t).length := by omega
    rw [if_neg h0, if_neg h0]
    simp only [if_neg h2]
theorem l2TextN_any (p0 : Int) (pn : Bool) (pa : Option Addr) (pl pc : Nat) (q0 : Int) (qn : Bool) (qa : Option Addr) (ql qc : Nat) (x : Int) (w : World) (h : IsQN 0 w (.agg #[.int .i64 p0, .bool pn, .slice pa pl pc, .int .i64 q0, .bool qn, .slice qa ql qc]) x 1) (hx : x.natAbs < 1000000000 ^ 6) :
    Calls Tryz.prog 19 #[.agg #[.int .i64 p0, .bool pn, .slice pa pl pc, .int .i64 q0, .bool qn, .slice qa ql qc]] w fun e w' => ∃ u, e = .returned (.string u) ∧ IsText x u ∧ Below w.heap.size w w' := by
  obtain ⟨_, _, _, _, _, _, _, _, _, _, e, h1, h2⟩ := id h
  simp only [Value.agg.injEq, Array.mk.injEq, List.cons.injEq, and_true] at e
  obtain ⟨e0, e1, e2, e3, e4, e5⟩ := e
  rw [← e0, ← e1, ← e2] at h1
  rw [← e3, ← e4, ← e5] at h2
  obtain ⟨n1, t1, k1, k2, k3⟩ := numZ_of (numZ_isN h1) hx
  obtain ⟨n2, t2, m1, m2, m3⟩ := numZ_of (N := 6) (numZ_isN h2) (by decide)
  refine (l2Text_any 0 p0 pn pa pl pc q0 qn qa ql qc n1 n2 t1 t2 x 1 w (Nat.zero_le _) h k1 m1 (by omega) (by omega)).mono ?_
  rintro e w' ⟨rfl, hb⟩
  refine ⟨_, rfl, ⟨n1, t1, k1.1, k1.2.1, k2, ?_⟩, hb⟩
  rw [if_pos rfl]
  exact fullT_text _ _ (by omega)
/-- The inner loop's state. -/
structure BS (W1 wc : World) (bx : Nat) (va : Value) (rest : List Value) (T : List (List UInt8)) (W : World) : Prop where
  box : Bx W bx (va :: rest)
  row : W.ownsRow wc.heap.size 9 1 va T.length (strsC T)
  same : ∀ b, b < wc.heap.size → b ≠ bx → W.heap[b]? = wc.heap[b]?
  size : wc.heap.size ≤ W.heap.size
  bel : Below W1.heap.size W1 W
theorem strsC_app (T : List (List UInt8)) (u : ByteArray) : strsC T ++ [.string u] = strsC (T ++ [u.data.toList]) := by unfold strsC; rw [List.map_append, List.map_cons, List.map_nil, strOf_data]
/-- What l13Back answers. -/
def BackR (G : List Nr) (w : World) (e : Ending) (w' : World) : Prop := ∃ v' F A, e = .returned v' ∧ OutR w.heap.size w' v' F A ∧ F.length = G.length ∧ (∀ i, i < G.length → SaidN (G.getD i ⟨[], false, 0⟩) (F.getD i ⟨[], false, []⟩)) ∧ Below w.heap.size w w'
set_option maxRecDepth 100000 in
set_option maxHeartbeats 20000000 in
theorem l13Back_any (v : Value) (G : List Nr) (base : Nat) (w : World) (hG : RRow base 0 w v G) (hok : ∀ f ∈ G, f.cs.length ≤ 20 ∧ SmN f) (hl : G.length ≤ 50) :
    Calls Tryz.prog 14 #[v] w (BackR G w) := by
  have HG := hidG hG
  have HOK := hidG hok
  obtain ⟨p, c, rfl⟩ := hG.form
  clear hG hok
  go_enter Tryz.func14, Tryz.ntmps14
  go_wp2_with fail
  go_loopw [3, 11] (fun tv iv wr => ∃ (k : Nat) (F : List Lr) (A : List Value), k ≤ G.length ∧ iv = .int .i64 (k : Nat) ∧ OutR w.heap.size wr tv F A ∧ F.length = k ∧ (∀ i, i < k → SaidN (G.getD i ⟨[], false, 0⟩) (F.getD i ⟨[], false, []⟩)) ∧ Below w.heap.size w wr) (fun _ iv _ => G.length - (intOf iv).toNat)
  case atStart => exact ⟨0, [], [], Nat.zero_le _, rfl, OutR.nil _ _, rfl, fun i h => absurd h (Nat.not_lt_zero _), Below.refl _ _⟩
  case round =>
    rename World => wo
    obtain ⟨k, F, A, hk, rfl, hO, hFl, hTT, hB⟩ := hrel
    have HO := hidG hO
    have HFL := hidG hFl
    have HTT := hidG hTT
    have HBo := hidG hB
    clear hTT hFl
    by_cases hlt : k < G.length
    · obtain ⟨b, rfl⟩ : ∃ b, p = some ⟨b, 0, none⟩ := by
        obtain ⟨xs, h1, _⟩ := HG.out
        rcases h1.2 with ⟨_, e⟩ | ⟨g, _, _, e, _⟩
        · omega
        · cases e; exact ⟨g, rfl⟩
      obtain ⟨va, c0, c1, c2, c3, c4, c5, ⟨k0, k1, k2, k3, k4, k5, k6, k7⟩, hq, hz, hb⟩ := (HG.out.below hB).at hlt
      have HOF := hidG (HOK.out _ (List.getElem_mem hlt))
      have HGD : Hid (G.getD k ⟨[], false, 0⟩ = G[k]) := by unfold Hid; rw [List.getD_eq_getElem?_getD, List.getElem?_eq_getElem hlt]; rfl
      obtain ⟨f, hf⟩ : ∃ f, G[k] = f := ⟨_, rfl⟩
      rw [hf] at k1 hq hz HOF HGD
      obtain ⟨pv, cv, rfl⟩ := hO.form
      have HQ := hidG hq
      obtain ⟨pa, ca, rfl⟩ := hq.form
      rw [List.length_map] at HQ k0
      obtain ⟨zp0, zpn, zpa, zpl, zpc, zq0, zqn, zqa, zql, zqc, e6⟩ := hz.shape
      simp only [List.cons.injEq, and_true] at e6
      obtain ⟨rfl, rfl, rfl, rfl, rfl, rfl⟩ := e6
      have HZ := hidG hz
      obtain ⟨W1, hW1⟩ : ∃ W1, wo.alloc (.cells #[.slice pa f.cs.length ca, .bool f.st, .int .i64 zp0, .bool zpn, .slice zpa zpl zpc, .int .i64 zq0, .bool zqn, .slice zqa zql zqc] 75) = W1 := ⟨_, rfl⟩
      have hB1 : Below wo.heap.size wo W1 := by rw [← hW1]; exact below_alloc _ _
      have hX1 : Bx W1 wo.heap.size [.slice pa f.cs.length ca, .bool f.st, .int .i64 zp0, .bool zpn, .slice zpa zpl zpc, .int .i64 zq0, .bool zqn, .slice zqa zql zqc] := by rw [← hW1]; exact bx_new wo _ _
      have HW1 := hidG hW1
      have HX1 := hidG hX1
      have HBW1 := hidG hB1
      have hs1 : W1.heap.size = wo.heap.size + 1 := by rw [← hW1]; simp
      have HS1 := hidG hs1
      have HTB : Hid (∀ W, Below W1.heap.size W1 W → Calls Tryz.prog 19 #[.agg #[.int .i64 zp0, .bool zpn, .slice zpa zpl zpc, .int .i64 zq0, .bool zqn, .slice zqa zql zqc]] W fun e w' => ∃ u, e = .returned (.string u) ∧ IsText f.bd u ∧ Below W.heap.size W w') := fun W hW => by
        refine (l2TextN_any _ _ _ _ _ _ _ _ _ _ f.bd W ((HZ.out.below (HBW1.out.trans (hW.mono HBW1.out.size))).isQN) HOF.out.2.2).mono ?_
        rintro e w' ⟨u, rfl, h1, h2⟩
        exact ⟨u, rfl, h1, h2⟩
      clear hf hW1 hB1 hX1 hB hs1 hO hq hz
      go_upto_region 1 with (rw [HW1.out])
      go_cut [6] (fun s6 wx => ∃ (bx : Nat) (u : ByteArray), s6 = .pointer (some ⟨bx, 0, none⟩) ∧ wo.heap.size + 1 ≤ bx ∧ Bx wx bx [.slice none 0 0, .bool f.st, .string u] ∧ IsText f.bd u ∧ Below W1.heap.size W1 wx)
      case first =>
        have HCC : Hid (∀ W, Below W1.heap.size W1 W → W.cell? ⟨wo.heap.size, 1, none⟩ = some (.bool f.st) ∧ W.cell? ⟨wo.heap.size, 2, none⟩ = some (.int .i64 zp0) ∧ W.cell? ⟨wo.heap.size, 3, none⟩ = some (.bool zpn) ∧ W.cell? ⟨wo.heap.size, 4, none⟩ = some (.slice zpa zpl zpc) ∧ W.cell? ⟨wo.heap.size, 5, none⟩ = some (.int .i64 zq0) ∧ W.cell? ⟨wo.heap.size, 6, none⟩ = some (.bool zqn) ∧ W.cell? ⟨wo.heap.size, 7, none⟩ = some (.slice zqa zql zqc)) := fun W hW => (HX1.out.below HX1.out.lt hW).c8.2
        obtain ⟨m1, m2, m3, m4, m5, m6, m7⟩ := HCC.out W1 (Below.refl _ _)
        have q1 : wo.heap.size < W1.heap.size := HX1.out.lt
        go_region_law
          ((go_simp; refine (HTB.out _ (by first | exact (Below.refl _ _).drew | exact up_alloc (Below.refl _ _).drew _)).mono ?_; rintro e w2 ⟨u, rfl, hu, hb2⟩; have HB2 : Hid (Below W1.heap.size W1 w2) := (by first | (exact ⟨hb2.os, hb2.tape, hb2.output, hb2.size, hb2.block⟩) | (exact (up_alloc (Below.refl _ _).drew _).trans (hb2.mono (by simp)))); have HU := hidG hu; obtain ⟨m1, m2, m3, m4, m5, m6, m7⟩ := HCC.out w2 HB2.out; have q2 : wo.heap.size < w2.heap.size := Nat.lt_of_lt_of_le q1 HB2.out.size; try (have hnb : Bx w2 W1.heap.size [.slice none 0 0, .bool false, .string ⟨#[]⟩] := (bx_new W1.drew [.slice none 0 0, .bool false, .string ⟨#[]⟩] 38).below (bx_new W1.drew [.slice none 0 0, .bool false, .string ⟨#[]⟩] 38).lt hb2; obtain ⟨n0, n1, n2⟩ := hnb.c3; have g0 := hnb.frozen 0; have g1 := hnb.frozen 1; have g2 := hnb.frozen 2; have HNB := hidG hnb; clear hnb); clear hu hb2; go_wp2_with fail))
        all_goals
          go_wp2_with fail
          go_meet
          have hs1 := HS1.out
          have hs2 := HB2.out.size
          first
            | (have hnb := HNB.out
               exact ⟨W1.heap.size, u, rfl, by omega, ((hnb.set 0 _).set 1 _).set 2 _, HU.out, ((HB2.out.setCell (p := ⟨W1.heap.size, 0, none⟩) (Nat.le_refl _) _).setCell (p := ⟨W1.heap.size, 1, none⟩) (Nat.le_refl _) _).setCell (p := ⟨W1.heap.size, 2, none⟩) (Nat.le_refl _) _⟩)
            | exact ⟨w2.heap.size, u, rfl, by omega, bx_new w2 _ _, HU.out, HB2.out.alloc hs2 _⟩
      case rest =>
        obtain ⟨bx, u, rfl, hbx, hX, hu, hBc⟩ := hcut
        obtain ⟨ub, rfl⟩ : ∃ ub, u = strOf ub := ⟨u.data.toList, (strOf_data u).symm⟩
        have HU := hidG hu
        have HBX := hidG hbx
        have HBS0 : Hid (BS W1 wc bx (.slice none 0 0) [.bool f.st, .string (strOf ub)] [] wc) := ⟨hX, World.ownsRow_nil _ _ _ _, fun _ _ _ => rfl, Nat.le_refl _, hBc⟩
        obtain ⟨r0, -⟩ := (HX1.out.below HX1.out.lt hBc).c8
        have hbxw : bx < wc.heap.size := hX.lt
        clear hX hu hBc hbx
        go_wp2_with fail
        go_loopw [24] (fun jv wr => ∃ (j : Nat) (vq : Value) (T : List (List UInt8)), j ≤ f.cs.length ∧ jv = .int .i64 (j : Nat) ∧ T.length = j ∧ (∀ i, i < j → IsText (f.cs.getD i 0) (strOf (T.getD i []))) ∧ BS W1 wc bx vq [.bool f.st, .string (strOf ub)] T wr) (fun jv _ => f.cs.length - (intOf jv).toNat)
        case atStart => exact ⟨0, _, [], Nat.zero_le _, rfl, rfl, fun i h => absurd h (Nat.not_lt_zero _), HBS0.out⟩
        case round =>
          rename World => wi
          obtain ⟨j, vq, T, hj, rfl, hTl, hTx, hR⟩ := hrel
          have HR := hidG hR
          have HTL := hidG hTl
          have HTX := hidG hTx
          clear HBS0 hTl hTx
          have hBi := HBW1.out.trans (hR.bel.mono HBW1.out.size)
          have HBI := hidG hBi
          by_cases hjl : j < f.cs.length
          · have HCD : Hid (f.cs.getD j 0 = f.cs[j]) := by unfold Hid; rw [List.getD_eq_getElem?_getD, List.getElem?_eq_getElem hjl]; rfl
            have HC6 : Hid (f.cs[j].natAbs < 1000000000 ^ 6) := HOF.out.2.1 _ (List.getElem_mem hjl)
            obtain ⟨pq, cq, rfl, -⟩ := own_form hR.row
            obtain ⟨gq, a0, a1, a2, a3, a4, a5, a6, a7, a8, a9, rfl, hgq, ⟨q0, q1, q2, q3, q4, q5⟩, hqn⟩ := (HQ.out.below hBi).at (i := j) (by rw [List.length_map]; exact hjl)
            rw [List.getElem_map] at hqn
            obtain ⟨W5, hW5⟩ : ∃ W5, wi.alloc (.cells #[.int .i64 a0, .bool a1, .slice a2 a3 a4, .int .i64 a5, .bool a6, .slice a7 a8 a9] 55) = W5 := ⟨_, rfl⟩
            have hB5 : Below wi.heap.size wi W5 := by rw [← hW5]; exact below_alloc _ _
            have hX5 : Bx W5 wi.heap.size [.int .i64 a0, .bool a1, .slice a2 a3 a4, .int .i64 a5, .bool a6, .slice a7 a8 a9] := by rw [← hW5]; exact bx_new wi _ _
            have HW5 := hidG hW5
            have HB5 := hidG hB5
            have HQ5 := hidG (hqn.below hB5)
            have HTC : Hid (∀ W, Below W5.heap.size W5 W → Calls Tryz.prog 19 #[.agg #[.int .i64 a0, .bool a1, .slice a2 a3 a4, .int .i64 a5, .bool a6, .slice a7 a8 a9]] W fun e w' => ∃ u, e = .returned (.string u) ∧ IsText f.cs[j] u ∧ Below W5.heap.size W5 w') := fun W hW => by
              refine (l2TextN_any _ _ _ _ _ _ _ _ _ _ _ W (HQ5.out.below hW) HC6.out).mono ?_
              rintro e w' ⟨u, rfl, h1, h2⟩
              exact ⟨u, rfl, h1, hW.trans (h2.mono hW.size)⟩
            have HCQ : Hid (∀ W, Below W5.heap.size W5 W → W.cell? ⟨wi.heap.size, 0, none⟩ = some (.int .i64 a0) ∧ W.cell? ⟨wi.heap.size, 1, none⟩ = some (.bool a1) ∧ W.cell? ⟨wi.heap.size, 2, none⟩ = some (.slice a2 a3 a4) ∧ W.cell? ⟨wi.heap.size, 3, none⟩ = some (.int .i64 a5) ∧ W.cell? ⟨wi.heap.size, 4, none⟩ = some (.bool a6) ∧ W.cell? ⟨wi.heap.size, 5, none⟩ = some (.slice a7 a8 a9)) := fun W hW => (hX5.below hX5.lt hW).c6
            obtain ⟨y0, y1, y2, y3, y4, y5⟩ := hX5.c6
            have HRB := hidG (hR.box.below hR.box.lt hB5)
            have d0 := HRB.out.cell 0
            simp only [List.getElem?_cons_zero] at d0
            have hj20 : j ≤ 20 := by have := HOF.out.1; omega
            have q5b : bx < W5.heap.size := HRB.out.lt
            have HOB : Hid (∀ b, (Value.slice pq T.length cq).ownBlock = some b → wc.heap.size ≤ b ∧ b < wi.heap.size) := fun b e => hR.row.lt b e
            have i2 : (j : Int) < (f.cs.length : Int) := by omega
            clear hW5 hB5 hX5 hR hqn hBi
            go_wp2_with (rw [HW5.out])
            go_region_law
              (first
                | (refine step_appS (W := w4) (t := u4) (n := T.length) (base := wc.heap.size) (v := .slice pq T.length cq) (xs := strsC T) (by rfl) _ _ (by rfl) (by rfl) HROW4.out (by rfl) HTN.out HS4.out ?_; intro g5 c5 w5 hrow5 hgr5; have HR5 := hidG hrow5; have HG5 := hidG hgr5; have hx5 := bx_grown (HX4.out.alloc _) hgr5 HNE.out; have d1 := hx5.cell 0; have e1 := hx5.frozen 0; simp only [List.getElem?_cons_zero] at d1; have HX5 := hidG hx5; clear hrow5 hgr5 hx5)
                | (go_simp; refine (HTC.out _ (Below.refl _ _).drew).mono ?_; rintro e w4 ⟨u4, rfl, hu4, hb4⟩; have HU4 := hidG hu4; have HB4 := hidG hb4; have HBi4 : Hid (Below wi.heap.size wi w4) := HB5.out.trans (hb4.mono HB5.out.size); have HROW4 : Hid (w4.ownsRow wc.heap.size 9 1 (.slice pq T.length cq) T.length (strsC T)) := row_below HR.out.row HBi4.out; have HS4 : Hid (wc.heap.size ≤ w4.heap.size) := Nat.le_trans HR.out.size HBi4.out.size; have HTN : Hid (T.length ≤ 1000000000) := (by have := HTL.out; unfold Hid; omega); have HX4 := hidG (HR.out.box.below HR.out.box.lt HBi4.out); have HNE : Hid ((Value.slice pq T.length cq).ownBlock ≠ some bx) := fun e => Nat.lt_irrefl _ (Nat.lt_of_lt_of_le hbxw (HOB.out _ e).1); have d0 : w4.cell? ⟨bx, 0, none⟩ = some (.slice pq T.length cq) := HX4.out.cell 0; have q3 : bx < w4.heap.size := HX4.out.lt; clear hu4 hb4; go_wp2_with fail))
            all_goals
              go_wp2_with fail
              refine ⟨⟨j + 1, .slice (some ⟨g5, 0, none⟩) (T.length + 1) c5, T ++ [u4.data.toList], by omega, by go_num, by rw [List.length_append, HTL.out]; rfl, fun i hi => ?_, ?_⟩, by simp [intOf]; omega⟩
              · have htl := HTL.out
                by_cases e : i = j
                · subst e
                  rw [HCD.out, List.getD_eq_getElem?_getD (l := T ++ [u4.data.toList]), List.getElem?_append_right (by omega), htl, Nat.sub_self]
                  show IsText _ (strOf u4.data.toList)
                  rw [strOf_data]
                  exact HU4.out
                · have := HTX.out i (by omega)
                  rw [List.getD_eq_getElem?_getD (l := T)] at this
                  rw [List.getD_eq_getElem?_getD (l := T ++ [u4.data.toList]), List.getElem?_append_left (by omega)]
                  exact this
              · have hw1c : W1.heap.size ≤ bx := by have := HS1.out; have := HBX.out; omega
                have hb4 := HR.out.bel.trans (HBi4.out.mono HR.out.bel.size)
                have hg4 : w4.grownBy w5 (Value.slice pq T.length cq).ownBlock := (World.grownBy_alloc w4 _ _).trans HG5.out
                have hrow : w5.ownsRow wc.heap.size 9 1 (.slice (some ⟨g5, 0, none⟩) (T.length + 1) c5) (T ++ [u4.data.toList]).length (strsC (T ++ [u4.data.toList])) := by
                  rw [← strsC_app, List.length_append]
                  exact HR5.out
                refine ⟨HX5.out.set 0 _, ownsRow_setCell_below hrow (a := ⟨bx, 0, none⟩) hbxw _, fun b h1 h2 => ?_, ?_, ?_⟩
                · have h4 := HR.out.size
                  have h5 := HBi4.out.size
                  rw [Below.heap_setCell _ ⟨bx, 0, none⟩ _ _ h2, hg4.block b (by omega) (fun e => by have := (HOB.out b e.symm).1; omega), HBi4.out.block b (by omega)]
                  exact HR.out.same b h1 h2
                · have h4 := HR.out.size
                  have h5 := HBi4.out.size
                  have h6 := hg4.size
                  simp; omega
                · exact (hb4.grown hg4 hb4.size (fun k e => by have := (HOB.out k e).1; omega)).setCell (p := ⟨bx, 0, none⟩) hw1c _
          · have hje : j = f.cs.length := by omega
            rw [hje] at HTL HTX
            obtain ⟨pq, cq, rfl, -⟩ := own_form hR.row
            obtain ⟨n0, n1, n2⟩ := hR.box.c3
            clear hR hje hBi
            go_wp2_with (at_builtin; refine wpList_appR (W := wi) (base := w.heap.size) (F := F) (A := A) (f := (Lr.mk T f.st ub)) rfl _ _ rfl rfl ?own ?va ?hne _ rfl ?hH k ?hk ?hn ?hb ?_)
            case own => exact HO.out.below HBI.out
            case va => exact own_lower HR.out.row (Nat.le_trans HBo.out.size (Nat.le_trans HBW1.out.size (by have := HS1.out; have := HBX.out; omega)))
            case hne =>
              intro b hb a ha hab
              obtain ⟨i, hi, rfl⟩ := List.getElem_of_mem ha
              have h1 := own_base HR.out.row b hb
              have h2 := ((HO.out.rows i hi (by rw [← HO.out.len]; exact hi)).lt b hab).2
              have h3 := HBX.out
              omega
            case hH => rfl
            case hk => exact HFL.out
            case hn => omega
            case hb => exact Nat.le_trans HBo.out.size HBI.out.size
            intro g5 c5 w5 hout5 hsz5 hgr5
            have HO5 := hidG hout5
            have HB5 : Hid (Below w.heap.size w w5) := by
              have hbw := HBo.out.trans (HBI.out.mono HBo.out.size)
              exact hbw.grown hgr5 hbw.size (fun b hb => (HO.out.own.lt b hb).1)
            have HSD : Hid (SaidN f (Lr.mk T f.st ub)) := ⟨rfl, HTL.out, HTX.out, HU.out⟩
            have HNX : Hid (∀ i, i < k + 1 → SaidN (G.getD i ⟨[], false, 0⟩) ((F ++ [(Lr.mk T f.st ub)]).getD i ⟨[], false, []⟩)) := fun i hi => by
              have hfl := HFL.out
              by_cases e : i = k
              · subst e
                rw [HGD.out, List.getD_eq_getElem?_getD (l := F ++ [(Lr.mk T f.st ub)]), List.getElem?_append_right (by omega), hfl, Nat.sub_self]
                exact HSD.out
              · have := HTT.out i (by omega)
                rw [List.getD_eq_getElem?_getD (l := F)] at this
                rw [List.getD_eq_getElem?_getD (l := F ++ [(Lr.mk T f.st ub)]), List.getElem?_append_left (by omega)]
                exact this
            clear hout5 hgr5
            go_wp2_with fail
            go_roundw
            case rel => exact ⟨k + 1, F ++ [(Lr.mk T f.st ub)], A ++ [_], by omega, by go_num, HO5.out, by rw [List.length_append, HFL.out]; rfl, HNX.out, HB5.out⟩
            case measure => simp [intOf]; omega
    · have hke : k = G.length := by omega
      rw [hke] at HFL HTT
      clear hB hO
      go_wp2_with fail
      go_ret
      exact ⟨_, F, A, rfl, HO.out, HFL.out, HTT.out, HBo.out⟩
/-- What the specification's Tighten answers. -/
def TightS (cols : Int) (Wh : List Bool) (F : List Lr) (w : World) (e : Ending) (w' : World) : Prop := ∃ v' F' A, e = .returned v' ∧ OutR w.heap.size w' v' F' A ∧ (if flagOk cols Wh F = true then F'.length = F.length ∧ ∀ i, i < F.length → TightT Wh (F.getD i ⟨[], false, []⟩) (F'.getD i ⟨[], false, []⟩) else F' = []) ∧ Below w.heap.size w w'
theorem getD_map {F : List Lr} {i : Nat} (h : i < F.length) : (F.map nrOf).getD i ⟨[], false, 0⟩ = nrOf (F.getD i ⟨[], false, []⟩) := by
  rw [List.getD_eq_getElem?_getD, List.getD_eq_getElem?_getD, List.getElem?_map, List.getElem?_eq_getElem h]
  rfl
set_option maxRecDepth 100000 in
set_option maxHeartbeats 4000000 in
theorem tighten_spec (cols : Int) (wv v : Value) (Wh : List Bool) (F : List Lr) (w : World) (hw : BoolsAt w wv Wh) (h : RowsAt w v F) (hs : F.length ≤ 1048576 ∧ ∀ f ∈ F, SmallR f) (hc1 : -9223372036854775808 ≤ cols) (hc2 : cols ≤ 9223372036854775807) :
    Calls Tryz.prog 6 #[.int .i64 cols, wv, v] w (TightS cols Wh F w) := by
  have HC := hidG (goodRows_spec cols v F w h hs hc1 hc2)
  have HWA := hidG hw
  have HRA := hidG h
  have HSM := hidG hs
  obtain ⟨pw, cw, rfl, w1, w2, -⟩ := hw
  obtain ⟨p, c, rfl, -⟩ := h
  unfold maxLen at w2
  clear hs
  obtain ⟨g, hg⟩ : ∃ g, goodR cols F = g := ⟨_, rfl⟩
  have HG := hidG hg
  rw [hg] at HC
  clear hg
  cases g with
  | false =>
    have HFL : Hid (flagOk cols Wh F = false) := by unfold Hid flagOk; rw [HG.out]; rfl
    go_enter Tryz.func6, Tryz.ntmps6
    go_wp2_with (go_at_call 13; refine HC.out.mono ?_; rintro e w' ⟨rfl, hb⟩; have HB := hidG hb; clear hb)
    go_ret
    exact ⟨_, [], [], rfl, OutR.nil _ _, by rw [HFL.out]; rfl, HB.out⟩
  | true =>
    by_cases hwc : (Wh.length : Int) = cols
    · have HFL : Hid (flagOk cols Wh F = true) := by unfold Hid flagOk; rw [HG.out, decide_eq_true hwc]; rfl
      have yc : (!((Wh.length : Int) == cols)) = false := by rw [Bool.not_eq_false']; simpa using hwc
      have HOKF : Hid (∀ f ∈ F, Wh.length = f.cs.length ∧ textOk f.bd = true ∧ f.cs.all textOk = true) := fun f hf => flag_row HFL.out hf
      have HSZ := hidG (flag_small HFL.out)
      go_enter Tryz.func6, Tryz.ntmps6
      go_wp2_with (go_at_call 13; refine HC.out.mono ?_; rintro e w' ⟨rfl, hb⟩; have HB := hidG hb; clear hb)
      have HRw := hidG (HRA.out.below HB.out)
      refine (l12Read_any _ F _ HRw.out HSM.out (fun f hf => ⟨(HOKF.out f hf).2.1, (HOKF.out f hf).2.2, by have := (HOKF.out f hf).1; have := HSZ.out.2; omega⟩)).mono ?_
      rintro e w3 ⟨v3, rfl, ⟨p3, c3, rfl⟩, hr3, hb3⟩
      have HR3 := hidG hr3.zero
      have HB3 : Hid (Below w.heap.size w w3) := HB.out.trans (hb3.mono HB.out.size)
      clear hr3 hb3
      go_wp2_with fail
      refine (l13All_any _ _ Wh (F.map nrOf) _ w3 (HWA.out.below HB3.out) HR3.out (fun n hn => ?ok) (by rw [List.length_map]; exact HSZ.out.1)).mono ?_
      case ok =>
        obtain ⟨f, hf, rfl⟩ := nr_mem hn
        obtain ⟨h1, h2, h3⟩ := HOKF.out f hf
        rw [nr_len]
        exact ⟨h1, by have := HSZ.out.2; omega, sm_of h2 h3⟩
      rintro e w4 ⟨v4, G4, rfl, hg4, hl4, ht4, hb4⟩
      obtain ⟨p4, c4, rfl⟩ := hg4.form
      rw [List.length_map] at hl4 ht4
      have HG4 := hidG hg4
      have HL4 := hidG hl4
      have HT4 := hidG ht4
      have HB4 : Hid (Below w.heap.size w w4) := HB3.out.trans (hb4.mono HB3.out.size)
      have HS34 : Hid (w3.heap.size ≤ w4.heap.size) := hb4.size
      clear hg4 hl4 ht4 hb4
      go_wp2_with fail
      have HAT : Hid (∀ i, i < F.length → Tight Wh (nrOf (F.getD i ⟨[], false, []⟩)) (G4.getD i ⟨[], false, 0⟩)) := fun i hi => by
        have := HT4.out i hi
        rw [getD_map hi] at this
        exact this
      refine (l13Back_any _ G4 _ w4 HG4.out.ex (fun n hn => ?ok2) (by rw [HL4.out]; exact HSZ.out.1)).mono ?_
      case ok2 =>
        obtain ⟨i, hi, rfl⟩ := List.getElem_of_mem hn
        have hiF : i < F.length := by rw [← HL4.out]; exact hi
        have h1 := HAT.out i hiF
        have e : G4.getD i ⟨[], false, 0⟩ = G4[i] := by rw [List.getD_eq_getElem?_getD, List.getElem?_eq_getElem hi]; rfl
        rw [e] at h1
        obtain ⟨k1, k2, k3⟩ := HOKF.out _ (at_mem F ⟨[], false, []⟩ hiF)
        refine ⟨?_, h1.small (sm_of k2 k3)⟩
        rw [h1.len, nr_len]
        have := HSZ.out.2
        omega
      rintro e w5 ⟨v5, F5, A5, rfl, hO5, hl5, hs5, hb5⟩
      obtain ⟨p5, c5, rfl⟩ := hO5.form
      have HO5 := hidG hO5
      have HL5 := hidG hl5
      have HS5 := hidG hs5
      have HB5 : Hid (Below w.heap.size w w5) := HB4.out.trans (hb5.mono HB4.out.size)
      clear hO5 hl5 hs5 hb5
      go_wp2_with fail
      go_ret
      refine ⟨_, F5, A5, rfl, HO5.out.lower HB4.out.size, ?_, HB5.out⟩
      rw [if_pos HFL.out]
      exact ⟨HL5.out.trans HL4.out, fun i hi => ⟨_, HAT.out i hi, HS5.out i (by rw [HL4.out]; exact hi)⟩⟩
    · have HFL : Hid (flagOk cols Wh F = false) := by unfold Hid flagOk; rw [HG.out, decide_eq_false hwc]; rfl
      have yc : (!((Wh.length : Int) == cols)) = true := by rw [Bool.not_eq_true']; simpa using hwc
      go_enter Tryz.func6, Tryz.ntmps6
      go_wp2_with (go_at_call 13; refine HC.out.mono ?_; rintro e w' ⟨rfl, hb⟩; have HB := hidG hb; clear hb)
      go_ret
      exact ⟨_, [], [], rfl, OutR.nil _ _, by rw [HFL.out]; rfl, HB.out⟩
end Go.Proofs.YtknfmkeipeikkaaGreatDoor.L
namespace Go.Proofs.YtknfmkeipeikkaaGreatDoor
open Go.ChangeShapes Go.WideShapes Go.ChangeAt Go.RowKit
/-- But for block g the world is as it was. -/
structure Bar (g : Nat) (w w' : World) : Prop where
  os : w'.os = w.os
  tape : w'.tape = w.tape
  output : w'.output = w.output
  size : w.heap.size ≤ w'.heap.size
  block : ∀ k, k < w.heap.size → k ≠ g → w'.heap[k]? = w.heap[k]?
theorem Bar.refl (g : Nat) (w : World) : Bar g w w := ⟨rfl, rfl, rfl, Nat.le_refl _, fun _ _ _ => rfl⟩
theorem Bar.trans {g : Nat} {a b c : World} (h : Bar g a b) (k : Bar g b c) : Bar g a c :=
  ⟨k.os.trans h.os, k.tape.trans h.tape, k.output.trans h.output, Nat.le_trans h.size k.size, fun i hi hg => (k.block i (Nat.lt_of_lt_of_le hi h.size) hg).trans (h.block i hi hg)⟩
theorem Bar.of {g : Nat} {w w' : World} (h : Below w.heap.size w w') : Bar g w w' := ⟨h.os, h.tape, h.output, h.size, fun k hk _ => h.block k hk⟩
theorem Bar.below {g N : Nat} {w w' : World} (h : Bar g w w') (hN : N ≤ g) (hw : N ≤ w.heap.size) : Below N w w' := ⟨h.os, h.tape, h.output, h.size, fun k hk => h.block k (by omega) (by omega)⟩
theorem Bar.setCell (g i : Nat) (w : World) (v : Value) : Bar g w (w.setCell ⟨g, i, none⟩ v) :=
  ⟨rfl, rfl, rfl, by simp [World.setCell], fun k _ hk => Below.heap_setCell _ _ _ _ hk⟩
theorem Bar.drew {g : Nat} {w w' : World} (h : Bar g w w') : Bar g w w'.drew := ⟨h.os, h.tape, h.output, h.size, h.block⟩
theorem Bar.cell {g : Nat} {w w' : World} (h : Bar g w w') {p : Addr} (hp : p.block < w.heap.size) (hg : p.block ≠ g) : w'.cell? p = w.cell? p := by
  unfold World.cell?
  rw [h.block p.block hp hg]
/-- The bytes that choices are read from: they lie below N. -/
def CodeIn (g N : Nat) (w : World) (a : Option Addr) (n cap : Nat) : Prop := n ≤ cap ∧ cap ≤ maxLen ∧ ∀ i, i < n → ∃ b off v : Nat, a = some ⟨b, off, none⟩ ∧ b ≠ g ∧ b < N ∧ v < 256 ∧ w.cell? ⟨b, off + i, none⟩ = some (.int .u8 v)
theorem CodeIn.bar {g N : Nat} {w w' : World} {a : Option Addr} {n cap : Nat} (h : CodeIn g N w a n cap) (hN : N ≤ w.heap.size) (hb : Bar g w w') : CodeIn g N w' a n cap :=
  ⟨h.1, h.2.1, fun i hi => by
    obtain ⟨b, off, v, e, h1, h2, h3, h4⟩ := h.2.2 i hi
    exact ⟨b, off, v, e, h1, h2, h3, (hb.cell (p := ⟨b, off + i, none⟩) (Nat.lt_of_lt_of_le h2 hN) h1).trans h4⟩⟩
/-- A cursor over bytes; it, and they, lie below N. -/
def IsCur (g N : Nat) (w : World) (k : Nat) : Prop := g < N ∧ N ≤ w.heap.size ∧ ∃ a n cap sd, Bx w g [.slice a n cap, .int .i64 (k : Nat), .int .u64 (sd : Nat)] ∧ sd < 18446744073709551616 ∧ CodeIn g N w a n cap
theorem IsCur.below {g N k : Nat} {w w' : World} (h : IsCur g N w k) (hb : Below N w w') : IsCur g N w' k := by
  obtain ⟨h1, h2, a, n, cap, sd, hx, hs, hc⟩ := h
  refine ⟨h1, Nat.le_trans h2 hb.size, a, n, cap, sd, hx.below h1 hb, hs, hc.1, hc.2.1, fun i hi => ?_⟩
  obtain ⟨b, off, v, e, e1, e2, e3, e4⟩ := hc.2.2 i hi
  exact ⟨b, off, v, e, e1, e2, e3, (hb.cell (p := ⟨b, off + i, none⟩) e2).trans e4⟩
theorem wrap_u64_ex (x : Int) : ∃ m : Nat, IntKind.u64.wrap x = (m : Int) ∧ m < 18446744073709551616 := by
  refine ⟨(IntKind.u64.wrap x).toNat, ?_, ?_⟩ <;> simp only [IntKind.wrap_u64] <;> omega
theorem shr_and (m : Nat) (hm : m < 18446744073709551616) : ∃ r : Nat, wrap64 (bits BinOp.and IntKind.u64 ((m : Int) / 1099511627776) 255) = (r : Int) ∧ r < 256 := by
  have e1 : ((m : Int) / 1099511627776) = ((m / 1099511627776 : Nat) : Int) := by omega
  have e2 := bits_and_u64_nat (m / 1099511627776) 255 (by omega) (by decide)
  have h3 : (m / 1099511627776) &&& 255 ≤ 255 := Nat.and_le_right
  obtain ⟨x, hx⟩ : ∃ x : Nat, (m / 1099511627776) &&& 255 = x := ⟨_, rfl⟩
  rw [hx] at h3 e2
  refine ⟨x, ?_, by omega⟩
  have e4 : ((255 : Nat) : Int) = 255 := rfl
  rw [e4] at e2
  rw [e1, e2]
  unfold wrap64
  omega
theorem cur_step {g N k : Nat} {w : World} {a : Option Addr} {n cap sd : Nat} (hgN : g < N) (hN : N ≤ w.heap.size) (hx : Bx w g [.slice a n cap, .int .i64 (k : Nat), .int .u64 (sd : Nat)]) (hc : CodeIn g N w a n cap) (m1 m2 m : Nat) (hm : m < 18446744073709551616) :
    IsCur g N ((((w.drewN m1).setCell ⟨g, 1, none⟩ (.int .i64 ((k : Int) + 1))).setCell ⟨g, 2, none⟩ (.int .u64 (m : Nat))).drewN m2) (k + 1) ∧ Bar g w ((((w.drewN m1).setCell ⟨g, 1, none⟩ (.int .i64 ((k : Int) + 1))).setCell ⟨g, 2, none⟩ (.int .u64 (m : Nat))).drewN m2) := by
  have hb : Bar g w ((((w.drewN m1).setCell ⟨g, 1, none⟩ (.int .i64 ((k : Int) + 1))).setCell ⟨g, 2, none⟩ (.int .u64 (m : Nat))).drewN m2) := by
    have h0 : Bar g w (w.drewN m1) := ⟨rfl, rfl, rfl, Nat.le_refl _, fun _ _ _ => rfl⟩
    have h1 := (h0.trans (Bar.setCell g 1 _ (.int .i64 ((k : Int) + 1)))).trans (Bar.setCell g 2 _ (.int .u64 (m : Nat)))
    exact ⟨h1.os, h1.tape, h1.output, h1.size, h1.block⟩
  refine ⟨⟨hgN, Nat.le_trans hN hb.size, a, n, cap, m, ?_, hm, hc.bar hN hb⟩, hb⟩
  have h0 : Bx (w.drewN m1) g [.slice a n cap, .int .i64 (k : Nat), .int .u64 (sd : Nat)] := by obtain ⟨t, h⟩ := hx; exact ⟨t, h⟩
  have h1 := (h0.set 1 (.int .i64 ((k : Int) + 1))).set 2 (.int .u64 (m : Nat))
  obtain ⟨t, h⟩ := h1
  exact ⟨t, h⟩
set_option maxRecDepth 100000 in
set_option maxHeartbeats 1000000 in
theorem next_any (g N k : Nat) (w : World) (h : IsCur g N w k) (hk : k ≤ 1000000000000) :
    Calls Tryz.prog 39 #[.pointer (some ⟨g, 0, none⟩)] w fun e w' => ∃ r : Nat, e = .returned (.int .i64 (r : Nat)) ∧ r < 256 ∧ IsCur g N w' (k + 1) ∧ Bar g w w' := by
  obtain ⟨hgN, hNw, a, n, cap, sd, hx, hsd, hc⟩ := h
  have HGN := hidG (And.intro hgN hNw)
  clear hgN hNw
  have HX := hidG hx
  have HC := hidG hc
  have hcap := hc.2.1
  have hn := hc.1
  unfold maxLen at hcap
  have k0 := hx.cell 0
  have k1 := hx.cell 1
  have k2 := hx.cell 2
  simp only [List.getElem?_cons_zero, List.getElem?_cons_succ] at k0 k1 k2
  have f1 := hx.frozen 1
  have f2 := hx.frozen 2
  by_cases hlt : k < n
  · obtain ⟨b, off, v, ea, hbg, hbs, hv, hcell⟩ := hc.2.2 k hlt
    subst ea
    have z : decide ((k : Int) < (n : Int)) = true := by rw [decide_eq_true_iff]; omega
    have z2 : decide ((k : Int) + 1 ≤ (n : Int)) = true := by rw [decide_eq_true_iff]; omega
    clear hx hc
    go_enter Tryz.func39, Tryz.ntmps39
    go_wp2
    go_quiet (fail)
    go_wp2
    go_quiet (fail)
    go_wp2
    go_quiet (fail)
    go_wp2
    obtain ⟨m, hm, hml⟩ := wrap_u64_ex (IntKind.u64.wrap (IntKind.u64.wrap (↑sd * 6364136223846793005) + ↑v) + 1442695040888963407)
    rw [hm]
    go_ret
    obtain ⟨h1, h2⟩ := cur_step HGN.out.1 HGN.out.2 HX.out HC.out _ _ m hml
    exact ⟨v, rfl, hv, h1, h2⟩
  · have z : decide ((k : Int) < (n : Int)) = false := by rw [decide_eq_false_iff_not]; omega
    have z2 : decide ((k : Int) + 1 ≤ (n : Int)) = false := by rw [decide_eq_false_iff_not]; omega
    clear hx hc
    go_enter Tryz.func39, Tryz.ntmps39
    go_wp2
    go_quiet (fail)
    go_wp2
    go_quiet (fail)
    go_wp2
    obtain ⟨m, hm, hml⟩ := wrap_u64_ex (IntKind.u64.wrap (IntKind.u64.wrap (↑sd * 6364136223846793005)) + 1442695040888963407)
    obtain ⟨r, hr, hrl⟩ := shr_and m hml
    rw [hm, hr]
    go_ret
    obtain ⟨h1, h2⟩ := cur_step HGN.out.1 HGN.out.2 HX.out HC.out _ _ m hml
    exact ⟨r, rfl, hrl, h1, h2⟩
set_option maxRecDepth 100000 in
set_option maxHeartbeats 1000000 in
theorem pick_any (g N k n : Nat) (w : World) (h : IsCur g N w k) (hk : k ≤ 100000000000) (hn : 0 < n) (hn2 : n ≤ 65536) :
    Calls Tryz.prog 18 #[.pointer (some ⟨g, 0, none⟩), .int .i64 (n : Nat)] w fun e w' => ∃ r k' : Nat, e = .returned (.int .i64 (r : Nat)) ∧ r < n ∧ k' ≤ k + 2 ∧ IsCur g N w' k' ∧ Bar g w w' := by
  have HC := hidG h
  clear h
  by_cases h1 : n ≤ 1
  · have z : decide ((n : Int) ≤ 1) = true := by rw [decide_eq_true_iff]; omega
    go_enter Tryz.func18, Tryz.ntmps18
    go_wp2
    go_ret
    exact ⟨0, k, rfl, hn, by omega, HC.out, Bar.refl _ _⟩
  · have z : decide ((n : Int) ≤ 1) = false := by rw [decide_eq_false_iff_not]; omega
    by_cases h2 : 200 < n
    · have z2 : decide (200 < (n : Int)) = true := by rw [decide_eq_true_iff]; omega
      go_enter Tryz.func18, Tryz.ntmps18
      go_wp2_with fail
      refine (next_any g N k _ HC.out (by omega)).mono ?_
      rintro e w1 ⟨r1, rfl, hr1, hc1, hb1⟩
      have HC1 := hidG hc1
      have HB1 := hidG hb1
      clear hc1 hb1
      go_wp2_with fail
      refine (next_any g N (k + 1) _ HC1.out (by omega)).mono ?_
      rintro e w2 ⟨r2, rfl, hr2, hc2, hb2⟩
      have HC2 := hidG hc2
      have HB2 := hidG (HB1.out.trans hb2)
      clear hc2 hb2
      go_wp2
      go_ret
      exact ⟨(r1 * 256 + r2) % n, k + 1 + 1, ret_int (by push_cast; rfl), Nat.mod_lt _ hn, by omega, HC2.out, HB2.out⟩
    · have z2 : decide (200 < (n : Int)) = false := by rw [decide_eq_false_iff_not]; omega
      go_enter Tryz.func18, Tryz.ntmps18
      go_wp2_with fail
      refine (next_any g N k _ HC.out (by omega)).mono ?_
      rintro e w1 ⟨r1, rfl, hr1, hc1, hb1⟩
      have HC1 := hidG hc1
      have HB1 := hidG hb1
      clear hc1 hb1
      go_wp2
      go_ret
      exact ⟨r1 % n, k + 1, ret_int (by push_cast; rfl), Nat.mod_lt _ hn, by omega, HC1.out, HB1.out⟩
theorem Bar.grownBy {g : Nat} {w w' : World} (h : Bar g w w') : w.grownBy w' (some g) := ⟨h.os, h.tape, h.output, h.size, fun k hk hne => h.block k hk (fun e => hne (by rw [e]))⟩
/-- What a law on appends leaves: from the start's size on it may be what it will. -/
theorem Bar.then {g : Nat} {w a b : World} (h : Bar g w a) (k : Below w.heap.size a b) : Bar g w b :=
  ⟨k.os.trans h.os, k.tape.trans h.tape, k.output.trans h.output, Nat.le_trans h.size k.size, fun i hi hg => (k.block i hi).trans (h.block i hi hg)⟩
def DigL (ds : List Nat) : Prop := ∀ x ∈ ds, 48 ≤ x ∧ x ≤ 57
theorem DigL.snoc {ds : List Nat} (h : DigL ds) (x : Nat) (h1 : 48 ≤ x) (h2 : x ≤ 57) : DigL (ds ++ [x]) := fun y hy => by
  rcases List.mem_append.1 hy with h3 | h3
  · exact h y h3
  · simp at h3; omega
def drawn (s : Bool) (ds : List Nat) : List Nat := (if s then [45] else []) ++ ds
theorem drawn_len (s : Bool) (ds : List Nat) : (drawn s ds).length = (if s then 1 else 0) + ds.length := by
  unfold drawn
  cases s <;> simp
  omega
theorem drawn_snoc (s : Bool) (ds : List Nat) (x : Nat) : drawn s (ds ++ [x]) = drawn s ds ++ [x] := by unfold drawn; rw [List.append_assoc]
theorem headD_snoc (ds : List Nat) (x : Nat) (h : 49 ≤ ds.headD 0) : 49 ≤ (ds ++ [x]).headD 0 := by
  cases ds with
  | nil => simp at h
  | cons a l => simpa using h
theorem drawn_lt {s : Bool} {ds : List Nat} (h : DigL ds) : ∀ x ∈ drawn s ds, x < 256 := fun x hx => by
  unfold drawn at hx
  rcases List.mem_append.1 hx with h1 | h1
  · cases s <;> simp at h1; omega
  · have := h x h1; omega
/-- The loop of digits: j digits stand. -/
def DigInv (g N k n : Nat) (s : Bool) (w : World) (v i : Value) (W : World) : Prop := ∃ (j k' : Nat) (ds : List Nat), 1 ≤ j ∧ j ≤ n ∧ i = .int .i64 (j : Nat) ∧ ds.length = j ∧ DigL ds ∧ 49 ≤ ds.headD 0 ∧ k' ≤ k + 4 + 2 * (j - 1) ∧
  v = .slice (some ⟨w.heap.size, 0, none⟩) (drawn s ds).length (n + 1) ∧ W.ownsRow w.heap.size 5 1 (.slice (some ⟨w.heap.size, 0, none⟩) (drawn s ds).length (n + 1)) (drawn s ds).length (U8s (drawn s ds)) ∧ IsCur g N W k' ∧ Bar g w W
set_option maxRecDepth 100000 in
set_option maxHeartbeats 4000000 in
theorem digits_any (g N k n : Nat) (w : World) (h : IsCur g N w k) (hk : k ≤ 1000000000) (hn : 1 ≤ n) (hn2 : n ≤ 3000) :
    Calls Tryz.prog 81 #[.pointer (some ⟨g, 0, none⟩), .int .i64 (n : Nat)] w fun e w' => ∃ (s : Bool) (ds : List Nat) (k' : Nat), e = .returned (.string (strB (bytesOf (drawn s ds)))) ∧ ds.length = n ∧ DigL ds ∧ 49 ≤ ds.headD 0 ∧ k' ≤ k + 2 * n + 10 ∧ IsCur g N w' k' ∧ Bar g w w' := by
  obtain ⟨i0, hinf, hz0, hz1, hz2⟩ := info_parts Tryz.info_u8
  have HC := hidG h
  have hgN := h.1
  have hNw := h.2.1
  clear h
  go_enter Tryz.func81, Tryz.ntmps81
  go_wp2_with (at_make; refine wpList_make_own _ rfl _ _ 22 rfl w.heap.size 5 i0 (.int .u8 0) 1 Tryz.underlying22 hinf hz0 hz1 .i64 .i64 _ (n + 1) rfl rfl ?m1 ?m2 ?m3 ?m4 ?_)
  case m1 => omega
  case m2 => rw [hz2]; omega
  case m3 => unfold maxLen; omega
  case m4 => exact Nat.le_refl _
  intro w2 hown2 hgr2
  have hB2 : Below w.heap.size w w2 := (Below.refl _ _).grown hgr2 (Nat.le_refl _) (fun k h => by cases h)
  have HOWN2 := hidG hown2
  have HC2 := hidG (HC.out.below (hB2.mono hNw))
  have HB2 : Hid (Bar g w w2) := Bar.of hB2
  clear hgr2 hown2 hB2
  go_wp2_with fail
  refine (pick_any g N k 3 _ HC2.out (by omega) (by decide) (by decide)).mono ?_
  rintro e w3 ⟨r3, k3, rfl, hr3, hk3, hc3, hb3⟩
  have HC3 := hidG hc3
  have HB3 := hidG (HB2.out.trans hb3)
  have HOWN3 := hidG (HOWN2.out.kept hb3.grownBy (.inr (by simp [Value.ownBlock]; omega)))
  clear hc3 hb3
  by_cases h0 : r3 = 0
  · have z0 : ((r3 : Int) == 0) = true := by rw [beq_iff_eq]; omega
    have hown3 := HOWN3.out
    go_wp2_with (at_builtin; refine wpList_append_fits _ rfl _ _ 22 rfl w.heap.size 5 i0 1 Tryz.underlying22 hinf hz1 w.heap.size (0) (n + 1) _ rfl (hown3.alloc _) ⟨w3.heap.size, 0, none⟩ 1 1 [_] rfl rfl (cell_one_new _ _ _) ?c1 ?c2 ?_)
    case c1 => first | rfl | (intro u hu; simp at hu; subst hu; rfl)
    case c2 => omega
    intro w4 hown4 hgr4
    have hB4 : Below w.heap.size w3 w4 := ((Below.refl _ w3).alloc HB3.out.size _).grown hgr4 (by have := HB3.out.size; simp; omega) (fun k e => by cases e; exact Nat.le_refl _)
    have HOWN4 := hidG hown4
    have HC4 := hidG (HC3.out.below (hB4.mono hNw))
    have HB4 := hidG (HB3.out.then hB4)
    clear hown3 hown4 hgr4 hB4
    go_wp2_with fail
    refine (pick_any g N k3 9 _ HC4.out (by omega) (by decide) (by decide)).mono ?_
    rintro e w5 ⟨r5, k5, rfl, hr5, hk5, hc5, hb5⟩
    have HC5 := hidG hc5
    have HB5 := hidG (HB4.out.trans hb5)
    have HOWN5 := hidG (HOWN4.out.kept hb5.grownBy (.inr (by simp [Value.ownBlock]; omega)))
    clear hc5 hb5
    have hown5 := HOWN5.out
    go_wp2_with (at_builtin; refine wpList_append_fits _ rfl _ _ 22 rfl w.heap.size 5 i0 1 Tryz.underlying22 hinf hz1 w.heap.size (1) (n + 1) _ rfl (hown5.alloc _) ⟨w5.heap.size, 0, none⟩ 1 1 [_] rfl rfl (cell_one_new _ _ _) ?c1 ?c2 ?_)
    case c1 => first | rfl | (intro u hu; simp at hu; subst hu; rfl)
    case c2 => omega
    intro w6 hown6 hgr6
    have hB6 : Below w.heap.size w5 w6 := ((Below.refl _ w5).alloc HB5.out.size _).grown hgr6 (by have := HB5.out.size; simp; omega) (fun k e => by cases e; exact Nat.le_refl _)
    have HINV : Hid (DigInv g N k n true w (.slice (some ⟨w.heap.size, 0, none⟩) (1 + 1) (n + 1)) (.int .i64 1) w6) := by
      refine ⟨1, k5, [49 + r5], Nat.le_refl _, hn, rfl, rfl, ?_, ?_, by omega, rfl, ?_, HC5.out.below (hB6.mono hNw), HB5.out.then hB6⟩
      · intro x hx; simp at hx; omega
      · simp
      · simpa [U8s, drawn] using hown6
    clear hown5 hown6 hgr6 hB6
    go_wp2_with fail
    go_loopw [5, 6] (DigInv g N k n true w) (fun _ i _ => n - (intOf i).toNat)
    case atStart => exact HINV.out
    case round =>
      clear HINV
      obtain ⟨j, kj, ds, hj1, hj, rfl, hlen, hdl, hhd, hkj, rfl, hown, hcur, hbar⟩ := hrel
      obtain ⟨m, hm⟩ : ∃ m, (drawn true ds).length = m := ⟨_, rfl⟩
      have HM := hidG hm
      have hmj : m = 1 + j := by rw [← hm, drawn_len, hlen]; rfl
      have HMJ := hidG hmj
      rw [hm] at hown ⊢
      clear hm hmj
      have HDL := hidG hdl
      have HHD := hidG hhd
      have HLEN := hidG hlen
      have HBAR := hidG hbar
      have HCUR := hidG hcur
      have HOWN := hidG hown
      by_cases hlt : j < n
      · have zj : decide ((j : Int) < (n : Int)) = true := by rw [decide_eq_true_iff]; omega
        have hmn : m + 1 ≤ n + 1 := by have := HMJ.out; omega
        clear hdl hhd hlen hbar hcur hown
        go_wp2_with fail
        refine (pick_any g N kj 14 _ HCUR.out (by omega) (by decide) (by decide)).mono ?_
        rintro e w7 ⟨r7, k7, rfl, hr7, hk7, hc7, hb7⟩
        have HC7 := hidG hc7
        have HB7 := hidG (HBAR.out.trans hb7)
        have hown7 := HOWN.out.kept hb7.grownBy (.inr (by simp [Value.ownBlock]; omega))
        clear hc7 hb7
        by_cases h9 : 9 < r7
        · have z9 : decide (9 < (r7 : Int)) = true := by rw [decide_eq_true_iff]; omega
          go_wp2_with (at_builtin; refine wpList_append_fits _ rfl _ _ 22 rfl w.heap.size 5 i0 1 Tryz.underlying22 hinf hz1 w.heap.size (m) (n + 1) _ rfl (hown7.alloc _) ⟨w7.heap.size, 0, none⟩ 1 1 [_] rfl rfl (cell_one_new _ _ _) ?c1 ?c2 ?_)
          case c1 => first | rfl | (intro u hu; simp at hu; subst hu; rfl)
          case c2 => omega
          intro w8 hown8 hgr8
          have hB8 : Below w.heap.size w7 w8 := ((Below.refl _ w7).alloc HB7.out.size _).grown hgr8 (by have := HB7.out.size; simp; omega) (fun k e => by cases e; exact Nat.le_refl _)
          have HREL : Hid (DigInv g N k n true w (.slice (some ⟨w.heap.size, 0, none⟩) (m + 1) (n + 1)) (.int .i64 ((j : Int) + 1)) w8) := by
            have e1 : (drawn true (ds ++ [48 + 9 * (r7 % 2)])).length = m + 1 := by rw [drawn_snoc, List.length_append, HM.out]; rfl
            refine ⟨j + 1, k7, ds ++ [48 + 9 * (r7 % 2)], by omega, by omega, rfl, ?_, HDL.out.snoc _ (by omega) (by omega), headD_snoc _ _ HHD.out, by omega, by rw [e1], ?_, HC7.out.below (hB8.mono hNw), HB7.out.then hB8⟩
            · rw [List.length_append, HLEN.out]; rfl
            · rw [e1, drawn_snoc, U8s_snoc]
              simpa using hown8
          clear hown7 hown8 hgr8 hB8
          go_wp2
          go_roundw
          case rel => exact HREL.out
          case measure => simp [intOf]; omega
        · have z9 : decide (9 < (r7 : Int)) = false := by rw [decide_eq_false_iff_not]; omega
          go_wp2_with (at_builtin; refine wpList_append_fits _ rfl _ _ 22 rfl w.heap.size 5 i0 1 Tryz.underlying22 hinf hz1 w.heap.size (m) (n + 1) _ rfl (hown7.alloc _) ⟨w7.heap.size, 0, none⟩ 1 1 [_] rfl rfl (cell_one_new _ _ _) ?c1 ?c2 ?_)
          case c1 => first | rfl | (intro u hu; simp at hu; subst hu; rfl)
          case c2 => omega
          intro w8 hown8 hgr8
          have hB8 : Below w.heap.size w7 w8 := ((Below.refl _ w7).alloc HB7.out.size _).grown hgr8 (by have := HB7.out.size; simp; omega) (fun k e => by cases e; exact Nat.le_refl _)
          have HREL : Hid (DigInv g N k n true w (.slice (some ⟨w.heap.size, 0, none⟩) (m + 1) (n + 1)) (.int .i64 ((j : Int) + 1)) w8) := by
            have e1 : (drawn true (ds ++ [48 + r7])).length = m + 1 := by rw [drawn_snoc, List.length_append, HM.out]; rfl
            refine ⟨j + 1, k7, ds ++ [48 + r7], by omega, by omega, rfl, ?_, HDL.out.snoc _ (by omega) (by omega), headD_snoc _ _ HHD.out, by omega, by rw [e1], ?_, HC7.out.below (hB8.mono hNw), HB7.out.then hB8⟩
            · rw [List.length_append, HLEN.out]; rfl
            · rw [e1, drawn_snoc, U8s_snoc]
              simpa using hown8
          clear hown7 hown8 hgr8 hB8
          go_wp2
          go_roundw
          case rel => exact HREL.out
          case measure => simp [intOf]; omega
      · have zj : decide ((j : Int) < (n : Int)) = false := by rw [decide_eq_false_iff_not]; omega
        have hconv := conv_bytes _ _ _ _ _ _ hown (drawn_lt hdl) HM.out
        clear hdl hhd hlen hbar hcur hown
        go_wp2
        go_ret
        exact ⟨true, ds, kj, rfl, by have := HLEN.out; omega, HDL.out, HHD.out, by omega, HCUR.out, HBAR.out⟩
  · have z0 : ((r3 : Int) == 0) = false := by rw [beq_eq_false_iff_ne]; omega
    go_wp2_with fail
    refine (pick_any g N k3 9 _ HC3.out (by omega) (by decide) (by decide)).mono ?_
    rintro e w5 ⟨r5, k5, rfl, hr5, hk5, hc5, hb5⟩
    have HC5 := hidG hc5
    have HB5 := hidG (HB3.out.trans hb5)
    have HOWN5 := hidG (HOWN3.out.kept hb5.grownBy (.inr (by simp [Value.ownBlock]; omega)))
    clear hc5 hb5
    have hown5 := HOWN5.out
    go_wp2_with (at_builtin; refine wpList_append_fits _ rfl _ _ 22 rfl w.heap.size 5 i0 1 Tryz.underlying22 hinf hz1 w.heap.size (0) (n + 1) _ rfl (hown5.alloc _) ⟨w5.heap.size, 0, none⟩ 1 1 [_] rfl rfl (cell_one_new _ _ _) ?c1 ?c2 ?_)
    case c1 => first | rfl | (intro u hu; simp at hu; subst hu; rfl)
    case c2 => omega
    intro w6 hown6 hgr6
    have hB6 : Below w.heap.size w5 w6 := ((Below.refl _ w5).alloc HB5.out.size _).grown hgr6 (by have := HB5.out.size; simp; omega) (fun k e => by cases e; exact Nat.le_refl _)
    have HINV : Hid (DigInv g N k n false w (.slice (some ⟨w.heap.size, 0, none⟩) (0 + 1) (n + 1)) (.int .i64 1) w6) := by
      refine ⟨1, k5, [49 + r5], Nat.le_refl _, hn, rfl, rfl, ?_, ?_, by omega, rfl, ?_, HC5.out.below (hB6.mono hNw), HB5.out.then hB6⟩
      · intro x hx; simp at hx; omega
      · simp
      · simpa [U8s, drawn] using hown6
    clear hown5 hown6 hgr6 hB6
    go_wp2_with fail
    go_loopw [5, 6] (DigInv g N k n false w) (fun _ i _ => n - (intOf i).toNat)
    case atStart => exact HINV.out
    case round =>
      clear HINV
      obtain ⟨j, kj, ds, hj1, hj, rfl, hlen, hdl, hhd, hkj, rfl, hown, hcur, hbar⟩ := hrel
      obtain ⟨m, hm⟩ : ∃ m, (drawn false ds).length = m := ⟨_, rfl⟩
      have HM := hidG hm
      have hmj : m = 0 + j := by rw [← hm, drawn_len, hlen]; rfl
      have HMJ := hidG hmj
      rw [hm] at hown ⊢
      clear hm hmj
      have HDL := hidG hdl
      have HHD := hidG hhd
      have HLEN := hidG hlen
      have HBAR := hidG hbar
      have HCUR := hidG hcur
      have HOWN := hidG hown
      by_cases hlt : j < n
      · have zj : decide ((j : Int) < (n : Int)) = true := by rw [decide_eq_true_iff]; omega
        have hmn : m + 1 ≤ n + 1 := by have := HMJ.out; omega
        clear hdl hhd hlen hbar hcur hown
        go_wp2_with fail
        refine (pick_any g N kj 14 _ HCUR.out (by omega) (by decide) (by decide)).mono ?_
        rintro e w7 ⟨r7, k7, rfl, hr7, hk7, hc7, hb7⟩
        have HC7 := hidG hc7
        have HB7 := hidG (HBAR.out.trans hb7)
        have hown7 := HOWN.out.kept hb7.grownBy (.inr (by simp [Value.ownBlock]; omega))
        clear hc7 hb7
        by_cases h9 : 9 < r7
        · have z9 : decide (9 < (r7 : Int)) = true := by rw [decide_eq_true_iff]; omega
          go_wp2_with (at_builtin; refine wpList_append_fits _ rfl _ _ 22 rfl w.heap.size 5 i0 1 Tryz.underlying22 hinf hz1 w.heap.size (m) (n + 1) _ rfl (hown7.alloc _) ⟨w7.heap.size, 0, none⟩ 1 1 [_] rfl rfl (cell_one_new _ _ _) ?c1 ?c2 ?_)
          case c1 => first | rfl | (intro u hu; simp at hu; subst hu; rfl)
          case c2 => omega
          intro w8 hown8 hgr8
          have hB8 : Below w.heap.size w7 w8 := ((Below.refl _ w7).alloc HB7.out.size _).grown hgr8 (by have := HB7.out.size; simp; omega) (fun k e => by cases e; exact Nat.le_refl _)
          have HREL : Hid (DigInv g N k n false w (.slice (some ⟨w.heap.size, 0, none⟩) (m + 1) (n + 1)) (.int .i64 ((j : Int) + 1)) w8) := by
            have e1 : (drawn false (ds ++ [48 + 9 * (r7 % 2)])).length = m + 1 := by rw [drawn_snoc, List.length_append, HM.out]; rfl
            refine ⟨j + 1, k7, ds ++ [48 + 9 * (r7 % 2)], by omega, by omega, rfl, ?_, HDL.out.snoc _ (by omega) (by omega), headD_snoc _ _ HHD.out, by omega, by rw [e1], ?_, HC7.out.below (hB8.mono hNw), HB7.out.then hB8⟩
            · rw [List.length_append, HLEN.out]; rfl
            · rw [e1, drawn_snoc, U8s_snoc]
              simpa using hown8
          clear hown7 hown8 hgr8 hB8
          go_wp2
          go_roundw
          case rel => exact HREL.out
          case measure => simp [intOf]; omega
        · have z9 : decide (9 < (r7 : Int)) = false := by rw [decide_eq_false_iff_not]; omega
          go_wp2_with (at_builtin; refine wpList_append_fits _ rfl _ _ 22 rfl w.heap.size 5 i0 1 Tryz.underlying22 hinf hz1 w.heap.size (m) (n + 1) _ rfl (hown7.alloc _) ⟨w7.heap.size, 0, none⟩ 1 1 [_] rfl rfl (cell_one_new _ _ _) ?c1 ?c2 ?_)
          case c1 => first | rfl | (intro u hu; simp at hu; subst hu; rfl)
          case c2 => omega
          intro w8 hown8 hgr8
          have hB8 : Below w.heap.size w7 w8 := ((Below.refl _ w7).alloc HB7.out.size _).grown hgr8 (by have := HB7.out.size; simp; omega) (fun k e => by cases e; exact Nat.le_refl _)
          have HREL : Hid (DigInv g N k n false w (.slice (some ⟨w.heap.size, 0, none⟩) (m + 1) (n + 1)) (.int .i64 ((j : Int) + 1)) w8) := by
            have e1 : (drawn false (ds ++ [48 + r7])).length = m + 1 := by rw [drawn_snoc, List.length_append, HM.out]; rfl
            refine ⟨j + 1, k7, ds ++ [48 + r7], by omega, by omega, rfl, ?_, HDL.out.snoc _ (by omega) (by omega), headD_snoc _ _ HHD.out, by omega, by rw [e1], ?_, HC7.out.below (hB8.mono hNw), HB7.out.then hB8⟩
            · rw [List.length_append, HLEN.out]; rfl
            · rw [e1, drawn_snoc, U8s_snoc]
              simpa using hown8
          clear hown7 hown8 hgr8 hB8
          go_wp2
          go_roundw
          case rel => exact HREL.out
          case measure => simp [intOf]; omega
      · have zj : decide ((j : Int) < (n : Int)) = false := by rw [decide_eq_false_iff_not]; omega
        have hconv := conv_bytes _ _ _ _ _ _ hown (drawn_lt hdl) HM.out
        clear hdl hhd hlen hbar hcur hown
        go_wp2
        go_ret
        exact ⟨false, ds, kj, rfl, by have := HLEN.out; omega, HDL.out, HHD.out, by omega, HCUR.out, HBAR.out⟩
end Go.Proofs.YtknfmkeipeikkaaGreatDoor
