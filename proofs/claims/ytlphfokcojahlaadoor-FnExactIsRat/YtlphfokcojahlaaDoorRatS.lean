import Derived.Test.YtlphfokcojahlaaDoorGcdSpec
import Derived.Test.YtlphfokcojahlaaDoorRatD
namespace Go.Proofs.YtlphfokcojahlaaDoor
open Go.ChangeShapes Go.WideShapes Go.ChangeAt Go.RowKit
theorem isN_one {B : Nat} {w : World} {g0 : Int} {gn : Bool} {ga : Option Addr} {gl gc : Nat} {G : Int} (h : IsN B w (.agg #[.int .i64 g0, .bool gn, .slice ga gl gc]) G) : (((gl : Int) == 0) && (g0 == 1)) = decide (G = 1) := by
  obtain ⟨neg, t, ⟨hok, htr, hz⟩, hx⟩ := h
  rcases hz with ⟨h2, v, e, ⟨p, c, rfl, _⟩⟩ | ⟨h2, e⟩
  · simp only [Value.agg.injEq, Array.mk.injEq, List.cons.injEq, Value.slice.injEq, and_true] at e
    have hl : gl = t.length := e.2.2.2.1
    have hne : t ≠ [] := by rintro rfl; simp at h2
    have h3 := val_ge t htr hne
    have h4 : 1000000000 ^ 2 ≤ 1000000000 ^ (t.length - 1) := Nat.pow_le_pow_right (by decide) (by omega)
    have h5 : (1000000000 : Nat) ^ 2 = 1000000000000000000 := by decide
    have hG : G ≠ 1 := by
      rw [← hx]
      cases neg <;> simp [sg] <;> omega
    have hz : ((gl : Int) == 0) = false := by rw [beq_eq_false_iff_ne]; omega
    rw [hz, decide_eq_false hG]
    rfl
  · simp only [Value.agg.injEq, Array.mk.injEq, List.cons.injEq, Value.slice.injEq, Value.int.injEq, and_true, true_and] at e
    have hg : g0 = sg neg (val t) := e.1
    have hl : gl = 0 := e.2.2.2.1
    subst hl hg
    rw [hx]
    by_cases hG : G = 1
    · subst hG; rfl
    · have : (G == 1) = false := by rw [beq_eq_false_iff_ne]; exact hG
      rw [this, decide_eq_false hG]; rfl
theorem isNeg_at (q : ByteArray) (h : 0 < q.size) : ((q[0].toNat : Int) == 45) = isNeg q := by
  unfold isNeg
  have e : (q.extract 0 1).toList = [q[0]] := by
    rw [ByteArray.toList_eq, ByteArray.data_extract, Array.toList_extract]
    show (q.data.toList.drop 0).take (1 - 0) = [q[0]]
    have hl : 0 < q.data.toList.length := by simpa using h
    cases hq : q.data.toList with
    | nil => rw [hq] at hl; simp at hl
    | cons c l =>
      have : q[0] = c := by
        have h1 : q.data.toList[0]? = some q[0] := by rw [List.getElem?_eq_getElem hl]; rfl
        rw [hq] at h1
        simpa using h1.symm
      rw [this]; rfl
  rw [e]
  by_cases hc : q[0] = 45
  · rw [hc]; rfl
  · have h1 : ((q[0].toNat : Int) == 45) = false := by
      rw [beq_eq_false_iff_ne]
      intro e2
      exact hc (UInt8.toNat_inj.1 (by have e3 : (45 : UInt8).toNat = 45 := rfl; omega))
    have h2 : ([q[0]] == [45]) = false := by simp [hc]
    rw [h1, h2]
theorem eqB (a : ByteArray) (c : UInt8) : (a.toList == [c]) = decide (a = strB [c]) := by
  have : (strB [c]).toList = [c] := by rw [ByteArray.toList_eq]; rfl
  have h := toList_inj (a := a) (b := strB [c])
  rw [this] at h
  exact h
set_option maxRecDepth 100000 in
set_option maxHeartbeats 2000000 in
theorem specIsRat_any (s : ByteArray) (w : World) (hs : s.size ≤ maxLen) :
    Calls Tryd.prog 27 #[.string s] w fun e w' => ∃ b, e = .returned (.bool b) ∧ IsRatB s b ∧ Below w.heap.size w w' := by
  obtain ⟨k, hk⟩ := isCut_ex s
  have HK := hidG hk
  clear hk
  cases k with
  | none =>
    go_enter Tryd.func27, Tryd.ntmps27
    go_wp2_with fail
    refine (l2Cut_any s none _ hs HK.out).mono ?_
    rintro e w' ⟨rfl, hw'⟩
    subst hw'
    have e1 : cutI none = -1 := rfl
    rw [e1]
    go_wp2_with fail
    refine (isInt_spec s _ hs).mono ?_
    rintro e w2 ⟨rfl, hw2⟩
    subst hw2
    obtain ⟨b, hb⟩ : ∃ b, isIntB s = b := ⟨_, rfl⟩
    have HB := hidG hb
    rw [hb]
    clear hb
    go_wp2
    go_ret
    refine ⟨_, rfl, ⟨none, HK.out, ?_⟩, Below.refl _ _⟩
    constructor
    · intro e; exact ⟨numT s, 1, HB.out.trans e, rfl, rfl⟩
    · rintro ⟨x, y, h, _⟩; rw [← HB.out]; exact h
  | some i =>
    have hi := isCut_lt HK.out
    have hcp : s.extract 0 i = cutP s (some i) := rfl
    have hcq : s.extract (i + 1) s.size = cutQ s (some i) := rfl
    obtain ⟨p, hp⟩ : ∃ p, cutP s (some i) = p := ⟨_, rfl⟩
    obtain ⟨q, hq⟩ : ∃ q, cutQ s (some i) = q := ⟨_, rfl⟩
    have HPQ : Hid (cutP s (some i) = p ∧ cutQ s (some i) = q) := ⟨hp, hq⟩
    rw [hp] at hcp
    rw [hq] at hcq
    have hps : p.size ≤ maxLen := by rw [← hcp, ByteArray.size_extract]; omega
    have hqs : q.size ≤ maxLen := by rw [← hcq, ByteArray.size_extract]; omega
    have HSZ : Hid (p.size ≤ maxLen ∧ q.size ≤ maxLen) := ⟨hps, hqs⟩
    unfold maxLen at hs
    clear hp hq hps hqs
    go_enter Tryd.func27, Tryd.ntmps27
    go_wp2_with fail
    refine (l2Cut_any s (some i) _ (by unfold maxLen; exact hs) HK.out).mono ?_
    rintro e w' ⟨rfl, hw'⟩
    subst hw'
    have e1 : cutI (some i) = (i : Int) := rfl
    rw [e1]
    have HNOT : Hid ((¬ ∃ x y, RatV s (some i) x y) → IsRatB s false) := fun h => ⟨some i, HK.out, ⟨(fun e => by cases e), fun hx => (h hx).elim⟩⟩
    go_wp2_with fail
    refine (isInt_spec p _ HSZ.out.1).mono ?_
    rintro e w2 ⟨rfl, hw2⟩
    subst hw2
    cases hip : isIntB p
    · have HIP := hidG hip
      clear hip
      have HF : Hid (IsRatB s false) := HNOT.out (fun ⟨x, y, h⟩ => by
        have h1 := h.1.1
        rw [HPQ.out.1, HIP.out] at h1
        cases h1)
      go_wp2
      go_ret
      exact ⟨false, rfl, HF.out, Below.refl _ _⟩
    have HIP := hidG hip
    clear hip
    go_wp2_with fail
    refine (isInt_spec q _ HSZ.out.2).mono ?_
    rintro e w3 ⟨rfl, hw3⟩
    subst hw3
    cases hiq : isIntB q
    · have HIQ := hidG hiq
      clear hiq
      have HF : Hid (IsRatB s false) := HNOT.out (fun ⟨x, y, h⟩ => by
        have h1 := h.1.2
        rw [HPQ.out.2, HIQ.out] at h1
        cases h1)
      go_wp2
      go_ret
      exact ⟨false, rfl, HF.out, Below.refl _ _⟩
    have HIQ := hidG hiq
    clear hiq
    cases hp0 : (p.toList == [48])
    case true =>
      have HP0 := hidG hp0
      have HF : Hid (IsRatB s false) := HNOT.out (fun ⟨x, y, h⟩ => by
        have h1 := h.2.1.2.1
        rw [HPQ.out.1] at h1
        exact h1 (of_decide_eq_true ((eqB p 48).symm.trans HP0.out)))
      go_wp2
      go_ret
      exact ⟨false, rfl, HF.out, Below.refl _ _⟩
    case false =>
    have HP0 := hidG hp0
    cases hq0 : (q.toList == [48])
    case true =>
      have HQ0 := hidG hq0
      have HF : Hid (IsRatB s false) := HNOT.out (fun ⟨x, y, h⟩ => by
        have h1 := h.2.1.1
        rw [HPQ.out.2, of_decide_eq_true ((eqB q 48).symm.trans HQ0.out)] at h1
        exact h1 num_nil)
      go_wp2
      go_ret
      exact ⟨false, rfl, HF.out, Below.refl _ _⟩
    case false =>
    have HQ0 := hidG hq0
    cases hq1 : (q.toList == [49])
    case true =>
      have HQ1 := hidG hq1
      have HF : Hid (IsRatB s false) := HNOT.out (fun ⟨x, y, h⟩ => by
        have h1 := h.2.1.2.2.1
        rw [HPQ.out.2] at h1
        exact h1 (of_decide_eq_true ((eqB q 49).symm.trans HQ1.out)))
      go_wp2
      go_ret
      exact ⟨false, rfl, HF.out, Below.refl _ _⟩
    case false =>
    have HQ1 := hidG hq1
    have hqp : 0 < q.size := Nat.pos_of_ne_zero fun h => text_ne q HIQ.out (ByteArray.ext (by
      have : q.data.size = 0 := h
      rw [Array.eq_empty_of_size_eq_zero this]
      rfl))
    have hat := isNeg_at q hqp
    cases hneg : isNeg q
    case true =>
      have HNG := hidG hneg
      rw [hneg] at hat
      have HF : Hid (IsRatB s false) := HNOT.out (fun ⟨x, y, h⟩ => by
        have h1 := h.2.1.2.2.2.1
        rw [HPQ.out.2, HNG.out] at h1
        cases h1)
      go_wp2
      go_ret
      exact ⟨false, rfl, HF.out, Below.refl _ _⟩
    case false =>
    have HNG := hidG hneg
    rw [hneg] at hat
    clear hneg
    have HLL : Hid ((lim p).length ≤ 100000 ∧ (lim q).length ≤ 100000) := ⟨by have := lim_len' p HIP.out; omega, by have := lim_len' q HIQ.out; omega⟩
    obtain ⟨w0, hw0⟩ : ∃ w0 : World, w0 = w3 := ⟨_, rfl⟩
    have HW0 := hidG hw0
    clear hw0
    go_wp2_with fail
    refine (l1Read_any p _ HIP.out).mono ?_
    rintro e w4 ⟨z1, rfl, hz1, hb4⟩
    have HZ1 : Hid (IsZ w3.heap.size w4 z1 (isNeg p) (lim p)) := hz1
    have HB4 : Hid (Below w3.heap.size w3 w4) := hb4
    clear hz1 hb4
    go_wp2_with fail
    refine (l1Read_any q _ HIQ.out).mono ?_
    rintro e w5 ⟨z2, rfl, hz2, hb5⟩
    have HZ2 : Hid (IsZ w3.heap.size w5 z2 (isNeg q) (lim q)) := hz2.mono HB4.out.size
    have HZ1' : Hid (IsZ w3.heap.size w5 z1 (isNeg p) (lim p)) := HZ1.out.below hb5
    have HB5 : Hid (Below w3.heap.size w3 w5) := HB4.out.trans (hb5.mono HB4.out.size)
    clear hz2 hb5
    go_wp2_with fail
    refine (l1Gcd_any _ z1 z2 _ _ _ _ 100000 _ HB5.out.size HZ1'.out HZ2.out HLL.out.1 HLL.out.2 (Nat.le_refl _)).mono ?_
    rintro e w6 ⟨z3, rfl, hn3, hb6⟩
    obtain ⟨g0, gn, ga, gl, gc, rfl⟩ := hn3.shape
    have HONE := hidG (isN_one hn3)
    have HB6 : Hid (Below w3.heap.size w3 w6) := HB5.out.trans (hb6.mono HB5.out.size)
    obtain ⟨W7, hW7⟩ : ∃ W7, w6.alloc (.cells #[.int .i64 g0, .bool gn, .slice ga gl gc] 35) = W7 := ⟨_, rfl⟩
    have HW7 := hidG hW7
    have hb7 : Below w6.heap.size w6 W7 := by rw [← hW7]; exact below_alloc _ _
    have hgx : Bx W7 w6.heap.size [.int .i64 g0, .bool gn, .slice ga gl gc] := by rw [← hW7]; exact bx_new w6 _ _
    have HB7 : Hid (Below w3.heap.size w3 W7) := HB6.out.trans (hb7.mono HB6.out.size)
    have HGX : Hid (∀ W, Below W7.heap.size W7 W → Bx W w6.heap.size [.int .i64 g0, .bool gn, .slice ga gl gc]) := fun W hW => hgx.below hgx.lt hW
    have k0 := hgx.cell 0
    have k1 := hgx.cell 1
    have k2 := hgx.cell 2
    simp only [List.getElem?_cons_zero, List.getElem?_cons_succ] at k0 k1 k2
    have HRES : Hid (∀ r, decide (gcdI (sg (isNeg p) (val (lim p))) (sg (isNeg q) (val (lim q))) = 1) = r → IsRatB s r) := fun r hr => by
      refine ⟨some i, HK.out, ?_⟩
      rw [← hr, decide_eq_true_eq]
      have hg : gcdI (sg (isNeg p) (val (lim p))) (sg (isNeg q) (val (lim q))) = ((Int.gcd (numT p) (numT q) : Nat) : Int) := rfl
      rw [hg]
      constructor
      · intro h1
        refine ⟨numT p, numT q, ?_⟩
        show (isIntB (cutP s (some i)) = true ∧ isIntB (cutQ s (some i)) = true) ∧ _
        rw [HPQ.out.1, HPQ.out.2]
        refine ⟨⟨HIP.out, HIQ.out⟩, ⟨?_, ?_, ?_, HNG.out, by omega⟩, rfl, rfl⟩
        · intro h2
          have h3 := numT_inj q (strB [48]) HIQ.out (by kernel_rfl) (by rw [h2, num_nil])
          have h4 := (eqB q 48).symm.trans HQ0.out
          exact (of_decide_eq_false h4) h3
        · exact of_decide_eq_false ((eqB p 48).symm.trans HP0.out)
        · exact of_decide_eq_false ((eqB q 49).symm.trans HQ1.out)
      · rintro ⟨x, y, _, ⟨_, _, _, _, h5⟩, _⟩
        rw [HPQ.out.1, HPQ.out.2] at h5
        rw [h5]; rfl
    clear hn3 hb6 hW7 hb7 hgx
    go_upto_region 10 with fail
    rw [HW7.out]
    refine (l1IsSmall_ex g0 gn ga gl gc W7).mono ?_
    rintro e w8 ⟨rfl, hw8⟩
    have hb8 : Below W7.heap.size W7 w8 := by rw [hw8]; exact below_alloc _ _
    have HB8 : Hid (Below w3.heap.size w3 w8) := HB7.out.trans (hb8.mono HB7.out.size)
    have hx8 := HGX.out w8 hb8
    have j0 := hx8.cell 0
    simp only [List.getElem?_cons_zero] at j0
    clear hw8 hb8 hx8 k0 k1 k2
    by_cases hz : gl = 0
    · have z : ((gl : Int) == 0) = true := by rw [beq_iff_eq]; omega
      have HE : Hid ((g0 == 1) = decide (gcdI (sg (isNeg p) (val (lim p))) (sg (isNeg q) (val (lim q))) = 1)) := by
        have h := HONE.out
        rw [z] at h
        exact h
      rw [z]
      go_wp2
      go_ret
      exact ⟨_, rfl, HRES.out _ HE.out.symm, HB8.out⟩
    · have z : ((gl : Int) == 0) = false := by rw [beq_eq_false_iff_ne]; omega
      have HE : Hid (decide (gcdI (sg (isNeg p) (val (lim p))) (sg (isNeg q) (val (lim q))) = 1) = false) := by
        have h := HONE.out
        rw [z] at h
        exact h.symm
      rw [z]
      go_wp2
      go_ret
      exact ⟨_, rfl, HRES.out _ HE.out, HB8.out⟩
end Go.Proofs.YtlphfokcojahlaaDoor
