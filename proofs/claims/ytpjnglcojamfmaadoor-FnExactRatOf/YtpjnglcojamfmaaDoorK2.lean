import Derived.Test.YtpjnglcojamfmaaDoorGcdSpec
import Derived.Test.YtpjnglcojamfmaaDoorK1
import Derived.Test.YtpjnglcojamfmaaDoorCmpXY
namespace Go.Proofs.YtpjnglcojamfmaaDoor
open Go.ChangeShapes Go.WideShapes Go.ChangeAt Go.RowKit
theorem isN_one {B : Nat} {w : World} {g0 : Int} {gn : Bool} {ga : Option Addr} {gl gc : Nat} {G : Int} (h : IsN B w (.agg #[.int .i64 g0, .bool gn, .slice ga gl gc]) G) : (((gl : Int) == 0) && (g0 == 1)) = decide (G = 1) := by
  obtain ⟨neg, t, ⟨hok, htr, hz⟩, hx⟩ := h
  rcases hz with ⟨h2, v, e, ⟨p, c, rfl, _⟩⟩ | ⟨h2, e⟩
  · simp only [Value.agg.injEq, Array.mk.injEq, List.cons.injEq, Value.slice.injEq, and_true] at e
    have hl : gl = t.length := e.2.2.2.1
    have hne : t ≠ [] := by rintro rfl; simp at h2
    have h3 := val_ge t htr hne
    have h4 : 1000000000 ^ 2 ≤ 1000000000 ^ (t.length - 1) := Nat.pow_le_pow_right (by decide) (by omega)
    have h5 : (1000000000 : Nat) ^ 2 = 1000000000000000000 := by decide
    have hG : G ≠ 1 := by
      rw [← hx]
      cases neg <;> simp [sg] <;> omega
    have hz : ((gl : Int) == 0) = false := by rw [beq_eq_false_iff_ne]; omega
    rw [hz, decide_eq_false hG]
    rfl
  · simp only [Value.agg.injEq, Array.mk.injEq, List.cons.injEq, Value.slice.injEq, Value.int.injEq, and_true, true_and] at e
    have hg : g0 = sg neg (val t) := e.1
    have hl : gl = 0 := e.2.2.2.1
    subst hl hg
    rw [hx]
    by_cases hG : G = 1
    · subst hG; rfl
    · have : (G == 1) = false := by rw [beq_eq_false_iff_ne]; exact hG
      rw [this, decide_eq_false hG]; rfl
theorem isNeg_at (q : ByteArray) (h : 0 < q.size) : ((q[0].toNat : Int) == 45) = isNeg q := by
  unfold isNeg
  have e : (q.extract 0 1).toList = [q[0]] := by
    rw [ByteArray.toList_eq, ByteArray.data_extract, Array.toList_extract]
    show (q.data.toList.drop 0).take (1 - 0) = [q[0]]
    have hl : 0 < q.data.toList.length := by simpa using h
    cases hq : q.data.toList with
    | nil => rw [hq] at hl; simp at hl
    | cons c l =>
      have : q[0] = c := by
        have h1 : q.data.toList[0]? = some q[0] := by rw [List.getElem?_eq_getElem hl]; rfl
        rw [hq] at h1
        simpa using h1.symm
      rw [this]; rfl
  rw [e]
  by_cases hc : q[0] = 45
  · rw [hc]; rfl
  · have h1 : ((q[0].toNat : Int) == 45) = false := by
      rw [beq_eq_false_iff_ne]
      intro e2
      exact hc (UInt8.toNat_inj.1 (by have e3 : (45 : UInt8).toNat = 45 := rfl; omega))
    have h2 : ([q[0]] == [45]) = false := by simp [hc]
    rw [h1, h2]
theorem eqB (a : ByteArray) (c : UInt8) : (a.toList == [c]) = decide (a = strB [c]) := by
  have : (strB [c]).toList = [c] := by rw [ByteArray.toList_eq]; rfl
  have h := toList_inj (a := a) (b := strB [c])
  rw [this] at h
  exact h
set_option maxRecDepth 100000 in
set_option maxHeartbeats 2000000 in
theorem specIsRat_any (s : ByteArray) (w : World) (hs : s.size ≤ maxLen) :
    Calls Tryd.prog 5 #[.string s] w fun e w' => ∃ b, e = .returned (.bool b) ∧ IsRatB s b ∧ Below w.heap.size w w' := by
  obtain ⟨k, hk⟩ := isCut_ex s
  have HK := hidG hk
  clear hk
  cases k with
  | none =>
    go_enter Tryd.func5, Tryd.ntmps5
    go_wp2_with fail
    refine (l2Cut_any s none _ hs HK.out).mono ?_
    rintro e w' ⟨rfl, hw'⟩
    subst hw'
    have e1 : cutI none = -1 := rfl
    rw [e1]
    go_wp2_with fail
    refine (isInt_spec s _ hs).mono ?_
    rintro e w2 ⟨rfl, hw2⟩
    subst hw2
    obtain ⟨b, hb⟩ : ∃ b, isIntB s = b := ⟨_, rfl⟩
    have HB := hidG hb
    rw [hb]
    clear hb
    go_wp2
    go_ret
    refine ⟨_, rfl, ⟨none, HK.out, ?_⟩, Below.refl _ _⟩
    constructor
    · intro e; exact ⟨numT s, 1, HB.out.trans e, rfl, rfl⟩
    · rintro ⟨x, y, h, _⟩; rw [← HB.out]; exact h
  | some i =>
    have hi := isCut_lt HK.out
    have hcp : s.extract 0 i = cutP s (some i) := rfl
    have hcq : s.extract (i + 1) s.size = cutQ s (some i) := rfl
    obtain ⟨p, hp⟩ : ∃ p, cutP s (some i) = p := ⟨_, rfl⟩
    obtain ⟨q, hq⟩ : ∃ q, cutQ s (some i) = q := ⟨_, rfl⟩
    have HPQ : Hid (cutP s (some i) = p ∧ cutQ s (some i) = q) := ⟨hp, hq⟩
    rw [hp] at hcp
    rw [hq] at hcq
    have hps : p.size ≤ maxLen := by rw [← hcp, ByteArray.size_extract]; omega
    have hqs : q.size ≤ maxLen := by rw [← hcq, ByteArray.size_extract]; omega
    have HSZ : Hid (p.size ≤ maxLen ∧ q.size ≤ maxLen) := ⟨hps, hqs⟩
    unfold maxLen at hs
    clear hp hq hps hqs
    go_enter Tryd.func5, Tryd.ntmps5
    go_wp2_with fail
    refine (l2Cut_any s (some i) _ (by unfold maxLen; exact hs) HK.out).mono ?_
    rintro e w' ⟨rfl, hw'⟩
    subst hw'
    have e1 : cutI (some i) = (i : Int) := rfl
    rw [e1]
    have HNOT : Hid ((¬ ∃ x y, RatV s (some i) x y) → IsRatB s false) := fun h => ⟨some i, HK.out, ⟨(fun e => by cases e), fun hx => (h hx).elim⟩⟩
    go_wp2_with fail
    refine (isInt_spec p _ HSZ.out.1).mono ?_
    rintro e w2 ⟨rfl, hw2⟩
    subst hw2
    cases hip : isIntB p
    · have HIP := hidG hip
      clear hip
      have HF : Hid (IsRatB s false) := HNOT.out (fun ⟨x, y, h⟩ => by
        have h1 := h.1.1
        rw [HPQ.out.1, HIP.out] at h1
        cases h1)
      go_wp2
      go_ret
      exact ⟨false, rfl, HF.out, Below.refl _ _⟩
    have HIP := hidG hip
    clear hip
    go_wp2_with fail
    refine (isInt_spec q _ HSZ.out.2).mono ?_
    rintro e w3 ⟨rfl, hw3⟩
    subst hw3
    cases hiq : isIntB q
    · have HIQ := hidG hiq
      clear hiq
      have HF : Hid (IsRatB s false) := HNOT.out (fun ⟨x, y, h⟩ => by
        have h1 := h.1.2
        rw [HPQ.out.2, HIQ.out] at h1
        cases h1)
      go_wp2
      go_ret
      exact ⟨false, rfl, HF.out, Below.refl _ _⟩
    have HIQ := hidG hiq
    clear hiq
    cases hp0 : (p.toList == [48])
    case true =>
      have HP0 := hidG hp0
      have HF : Hid (IsRatB s false) := HNOT.out (fun ⟨x, y, h⟩ => by
        have h1 := h.2.1.2.1
        rw [HPQ.out.1] at h1
        exact h1 (of_decide_eq_true ((eqB p 48).symm.trans HP0.out)))
      go_wp2
      go_ret
      exact ⟨false, rfl, HF.out, Below.refl _ _⟩
    case false =>
    have HP0 := hidG hp0
    cases hq0 : (q.toList == [48])
    case true =>
      have HQ0 := hidG hq0
      have HF : Hid (IsRatB s false) := HNOT.out (fun ⟨x, y, h⟩ => by
        have h1 := h.2.1.1
        rw [HPQ.out.2, of_decide_eq_true ((eqB q 48).symm.trans HQ0.out)] at h1
        exact h1 num_nil)
      go_wp2
      go_ret
      exact ⟨false, rfl, HF.out, Below.refl _ _⟩
    case false =>
    have HQ0 := hidG hq0
    cases hq1 : (q.toList == [49])
    case true =>
      have HQ1 := hidG hq1
      have HF : Hid (IsRatB s false) := HNOT.out (fun ⟨x, y, h⟩ => by
        have h1 := h.2.1.2.2.1
        rw [HPQ.out.2] at h1
        exact h1 (of_decide_eq_true ((eqB q 49).symm.trans HQ1.out)))
      go_wp2
      go_ret
      exact ⟨false, rfl, HF.out, Below.refl _ _⟩
    case false =>
    have HQ1 := hidG hq1
    have hqp : 0 < q.size := Nat.pos_of_ne_zero fun h => text_ne q HIQ.out (ByteArray.ext (by
      have : q.data.size = 0 := h
      rw [Array.eq_empty_of_size_eq_zero this]
      rfl))
    have hat := isNeg_at q hqp
    cases hneg : isNeg q
    case true =>
      have HNG := hidG hneg
      rw [hneg] at hat
      have HF : Hid (IsRatB s false) := HNOT.out (fun ⟨x, y, h⟩ => by
        have h1 := h.2.1.2.2.2.1
        rw [HPQ.out.2, HNG.out] at h1
        cases h1)
      go_wp2
      go_ret
      exact ⟨false, rfl, HF.out, Below.refl _ _⟩
    case false =>
    have HNG := hidG hneg
    rw [hneg] at hat
    clear hneg
    have HLL : Hid ((lim p).length ≤ 100000 ∧ (lim q).length ≤ 100000) := ⟨by have := lim_len' p HIP.out; omega, by have := lim_len' q HIQ.out; omega⟩
    obtain ⟨w0, hw0⟩ : ∃ w0 : World, w0 = w3 := ⟨_, rfl⟩
    have HW0 := hidG hw0
    clear hw0
    go_wp2_with fail
    refine (l1Read_any p _ HIP.out).mono ?_
    rintro e w4 ⟨z1, rfl, hz1, hb4⟩
    have HZ1 : Hid (IsZ w3.heap.size w4 z1 (isNeg p) (lim p)) := hz1
    have HB4 : Hid (Below w3.heap.size w3 w4) := hb4
    clear hz1 hb4
    go_wp2_with fail
    refine (l1Read_any q _ HIQ.out).mono ?_
    rintro e w5 ⟨z2, rfl, hz2, hb5⟩
    have HZ2 : Hid (IsZ w3.heap.size w5 z2 (isNeg q) (lim q)) := hz2.mono HB4.out.size
    have HZ1' : Hid (IsZ w3.heap.size w5 z1 (isNeg p) (lim p)) := HZ1.out.below hb5
    have HB5 : Hid (Below w3.heap.size w3 w5) := HB4.out.trans (hb5.mono HB4.out.size)
    clear hz2 hb5
    go_wp2_with fail
    refine (l1Gcd_any _ z1 z2 _ _ _ _ 100000 _ HB5.out.size HZ1'.out HZ2.out HLL.out.1 HLL.out.2 (Nat.le_refl _)).mono ?_
    rintro e w6 ⟨z3, rfl, hn3, hb6⟩
    obtain ⟨g0, gn, ga, gl, gc, rfl⟩ := hn3.shape
    have HONE := hidG (isN_one hn3)
    have HB6 : Hid (Below w3.heap.size w3 w6) := HB5.out.trans (hb6.mono HB5.out.size)
    obtain ⟨W7, hW7⟩ : ∃ W7, w6.alloc (.cells #[.int .i64 g0, .bool gn, .slice ga gl gc] 28) = W7 := ⟨_, rfl⟩
    have HW7 := hidG hW7
    have hb7 : Below w6.heap.size w6 W7 := by rw [← hW7]; exact below_alloc _ _
    have hgx : Bx W7 w6.heap.size [.int .i64 g0, .bool gn, .slice ga gl gc] := by rw [← hW7]; exact bx_new w6 _ _
    have HB7 : Hid (Below w3.heap.size w3 W7) := HB6.out.trans (hb7.mono HB6.out.size)
    have HGX : Hid (∀ W, Below W7.heap.size W7 W → Bx W w6.heap.size [.int .i64 g0, .bool gn, .slice ga gl gc]) := fun W hW => hgx.below hgx.lt hW
    have k0 := hgx.cell 0
    have k1 := hgx.cell 1
    have k2 := hgx.cell 2
    simp only [List.getElem?_cons_zero, List.getElem?_cons_succ] at k0 k1 k2
    have HRES : Hid (∀ r, decide (gcdI (sg (isNeg p) (val (lim p))) (sg (isNeg q) (val (lim q))) = 1) = r → IsRatB s r) := fun r hr => by
      refine ⟨some i, HK.out, ?_⟩
      rw [← hr, decide_eq_true_eq]
      have hg : gcdI (sg (isNeg p) (val (lim p))) (sg (isNeg q) (val (lim q))) = ((Int.gcd (numT p) (numT q) : Nat) : Int) := rfl
      rw [hg]
      constructor
      · intro h1
        refine ⟨numT p, numT q, ?_⟩
        show (isIntB (cutP s (some i)) = true ∧ isIntB (cutQ s (some i)) = true) ∧ _
        rw [HPQ.out.1, HPQ.out.2]
        refine ⟨⟨HIP.out, HIQ.out⟩, ⟨?_, ?_, ?_, HNG.out, by omega⟩, rfl, rfl⟩
        · intro h2
          have h3 := numT_inj q (strB [48]) HIQ.out (by kernel_rfl) (by rw [h2, num_nil])
          have h4 := (eqB q 48).symm.trans HQ0.out
          exact (of_decide_eq_false h4) h3
        · exact of_decide_eq_false ((eqB p 48).symm.trans HP0.out)
        · exact of_decide_eq_false ((eqB q 49).symm.trans HQ1.out)
      · rintro ⟨x, y, _, ⟨_, _, _, _, h5⟩, _⟩
        rw [HPQ.out.1, HPQ.out.2] at h5
        rw [h5]; rfl
    clear hn3 hb6 hW7 hb7 hgx
    go_upto_region 10 with fail
    rw [HW7.out]
    refine (l1IsSmall_ex g0 gn ga gl gc W7).mono ?_
    rintro e w8 ⟨rfl, hw8⟩
    have hb8 : Below W7.heap.size W7 w8 := by rw [hw8]; exact below_alloc _ _
    have HB8 : Hid (Below w3.heap.size w3 w8) := HB7.out.trans (hb8.mono HB7.out.size)
    have hx8 := HGX.out w8 hb8
    have j0 := hx8.cell 0
    simp only [List.getElem?_cons_zero] at j0
    clear hw8 hb8 hx8 k0 k1 k2
    by_cases hz : gl = 0
    · have z : ((gl : Int) == 0) = true := by rw [beq_iff_eq]; omega
      have HE : Hid ((g0 == 1) = decide (gcdI (sg (isNeg p) (val (lim p))) (sg (isNeg q) (val (lim q))) = 1)) := by
        have h := HONE.out
        rw [z] at h
        exact h
      rw [z]
      go_wp2
      go_ret
      exact ⟨_, rfl, HRES.out _ HE.out.symm, HB8.out⟩
    · have z : ((gl : Int) == 0) = false := by rw [beq_eq_false_iff_ne]; omega
      have HE : Hid (decide (gcdI (sg (isNeg p) (val (lim p))) (sg (isNeg q) (val (lim q))) = 1) = false) := by
        have h := HONE.out
        rw [z] at h
        exact h.symm
      rw [z]
      go_wp2
      go_ret
      exact ⟨_, rfl, HRES.out _ HE.out, HB8.out⟩
end Go.Proofs.YtpjnglcojamfmaaDoor
namespace Go.Proofs.YtpjnglcojamfmaaDoor
open Go.ChangeShapes Go.WideShapes Go.ChangeAt Go.RowKit
/-- The specification's rational number, by value. -/
def IsQN (B : Nat) (w : World) (z : Value) (x y : Int) : Prop := ∃ (p0 : Int) (pn : Bool) (pa : Option Addr) (pl pc : Nat) (q0 : Int) (qn : Bool) (qa : Option Addr) (ql qc : Nat), z = .agg #[.int .i64 p0, .bool pn, .slice pa pl pc, .int .i64 q0, .bool qn, .slice qa ql qc] ∧
  NumZ B w (.agg #[.int .i64 p0, .bool pn, .slice pa pl pc]) x 1000 ∧ NumZ B w (.agg #[.int .i64 q0, .bool qn, .slice qa ql qc]) y 1000
theorem NumZ.keeps {B : Nat} {w W : World} {z : Value} {x : Int} {n : Nat} {g h : Nat} (hl : NumZ B w z x n) (n1 : NoInt w g) (n2 : NoInt w h) (k : Keeps g h w W) : NumZ B W z x n := by
  obtain ⟨neg, t, ⟨hok, htr, hz⟩, hx⟩ := hl
  refine ⟨neg, t, ⟨hok, htr, ?_⟩, hx⟩
  rcases hz with ⟨h2, v, hv, hL⟩ | hz
  · exact .inl ⟨h2, v, hv, hL.keeps n1 n2 k⟩
  · exact .inr hz
theorem NumZ.mono' {B B' : Nat} {w : World} {z : Value} {x : Int} {n n' : Nat} (h : NumZ B w z x n) (hb : B' ≤ B) (hn : n ≤ n') : NumZ B' w z x n' := by
  obtain ⟨neg, t, h1, h2, h3⟩ := h
  exact ⟨neg, t, h1.mono hb, h2, by omega⟩
theorem NumZ.shape' {B : Nat} {w : World} {z : Value} {x : Int} {n : Nat} (h : NumZ B w z x n) : ∃ (z0 : Int) (zn : Bool) (za : Option Addr) (zl zc : Nat), z = .agg #[.int .i64 z0, .bool zn, .slice za zl zc] := by
  obtain ⟨neg, t, h1, _⟩ := h
  exact h1.shape
def W6 (W : World) (g : Nat) (u0 u1 u2 u3 u4 u5 : Value) : World := (((((W.setCell ⟨g, 0, none⟩ u0).setCell ⟨g, 1, none⟩ u1).setCell ⟨g, 2, none⟩ u2).setCell ⟨g, 3, none⟩ u3).setCell ⟨g, 4, none⟩ u4).setCell ⟨g, 5, none⟩ u5
theorem keeps6 (W : World) (g : Nat) (u0 u1 u2 u3 u4 u5 : Value) : Keeps g g W (W6 W g u0 u1 u2 u3 u4 u5) :=
  Keeps.setCell (Keeps.setCell (Keeps.setCell (Keeps.setCell (Keeps.setCell (Keeps.setCell (Keeps.refl g g W) ⟨g, 0, none⟩ u0 (Or.inl rfl)) ⟨g, 1, none⟩ u1 (Or.inl rfl)) ⟨g, 2, none⟩ u2 (Or.inl rfl)) ⟨g, 3, none⟩ u3 (Or.inl rfl)) ⟨g, 4, none⟩ u4 (Or.inl rfl)) ⟨g, 5, none⟩ u5 (Or.inl rfl)
theorem set6 {N : Nat} {w W : World} (h : Below N w W) (g : Nat) (hg : N ≤ g) (u0 u1 u2 u3 u4 u5 : Value) : Below N w (W6 W g u0 u1 u2 u3 u4 u5) :=
  (((((h.setCell (p := ⟨g, 0, none⟩) hg u0).setCell (p := ⟨g, 1, none⟩) hg u1).setCell (p := ⟨g, 2, none⟩) hg u2).setCell (p := ⟨g, 3, none⟩) hg u3).setCell (p := ⟨g, 4, none⟩) hg u4).setCell (p := ⟨g, 5, none⟩) hg u5
theorem Bx.put6 {W : World} {g : Nat} {a b c d e f : Value} (h : Bx W g [a, b, c, d, e, f]) (u0 u1 u2 u3 u4 u5 : Value) : Bx (W6 W g u0 u1 u2 u3 u4 u5) g [u0, u1, u2, u3, u4, u5] := (((((h.set 0 u0).set 1 u1).set 2 u2).set 3 u3).set 4 u4).set 5 u5
end Go.Proofs.YtpjnglcojamfmaaDoor
namespace Go.Proofs.YtpjnglcojamfmaaDoor
open Go.ChangeShapes Go.WideShapes Go.ChangeAt Go.RowKit
theorem NumZ.isN {B : Nat} {w : World} {z : Value} {x : Int} {n : Nat} (h : NumZ B w z x n) : IsN B w z x := by
  obtain ⟨neg, t, h1, h2, _⟩ := h
  exact ⟨neg, t, h1, h2⟩
set_option maxRecDepth 100000 in
set_option maxHeartbeats 1000000 in
theorem l2Whole_any (B : Nat) (z : Value) (x y : Int) (w : World) (_hBw : B ≤ w.heap.size) (h : IsQN B w z x y) :
    Calls Tryd.prog 48 #[z] w fun e w' => e = .returned (.bool (decide (y = 1))) ∧ Below w.heap.size w w' := by
  obtain ⟨p0, pn, pa, pl, pc, q0, qn, qa, ql, qc, rfl, hP, hQ⟩ := h
  have HONE := hidG (isN_one hQ.isN)
  clear hP hQ
  obtain ⟨W0, hW0⟩ : ∃ W0, w.alloc (.cells #[.int .i64 p0, .bool pn, .slice pa pl pc, .int .i64 q0, .bool qn, .slice qa ql qc] 40) = W0 := ⟨_, rfl⟩
  have HW0 := hidG hW0
  have HB0 : Hid (Below w.heap.size w W0) := by show Below w.heap.size w W0; rw [← hW0]; exact below_alloc _ _
  have hx1 : Bx W0 w.heap.size [.int .i64 p0, .bool pn, .slice pa pl pc, .int .i64 q0, .bool qn, .slice qa ql qc] := by rw [← hW0]; exact bx_new w _ _
  have HX : Hid (∀ W, Below W0.heap.size W0 W → Bx W w.heap.size [.int .i64 p0, .bool pn, .slice pa pl pc, .int .i64 q0, .bool qn, .slice qa ql qc]) := fun W hW => hx1.below hx1.lt hW
  have k3 := hx1.cell 3
  have k4 := hx1.cell 4
  have k5 := hx1.cell 5
  simp only [List.getElem?_cons_zero, List.getElem?_cons_succ] at k3 k4 k5
  clear hW0 hx1
  go_enter Tryd.func48, Tryd.ntmps48
  go_upto_region 1 with fail
  rw [HW0.out]
  go_wp2_with fail
  refine (l1IsSmall_ex q0 qn qa ql qc W0).mono ?_
  rintro e w1 ⟨rfl, hw1⟩
  have hb1 : Below W0.heap.size W0 w1 := by rw [hw1]; exact below_alloc _ _
  have HB1 : Hid (Below w.heap.size w w1) := HB0.out.trans (hb1.mono HB0.out.size)
  have hx := HX.out w1 hb1
  have j3 := hx.cell 3
  simp only [List.getElem?_cons_zero, List.getElem?_cons_succ] at j3
  clear hw1 hb1 hx k3 k4 k5
  by_cases hz : ql = 0
  · have z : ((ql : Int) == 0) = true := by rw [beq_iff_eq]; omega
    have HE : Hid ((q0 == 1) = decide (y = 1)) := by have h := HONE.out; rw [z] at h; exact h
    rw [z]
    go_wp2
    go_ret
    exact ⟨ret_bool HE.out, HB1.out⟩
  · have z : ((ql : Int) == 0) = false := by rw [beq_eq_false_iff_ne]; omega
    have HE : Hid (false = decide (y = 1)) := by have h := HONE.out; rw [z] at h; exact h
    rw [z]
    go_wp2
    go_ret
    exact ⟨ret_bool HE.out, HB1.out⟩
end Go.Proofs.YtpjnglcojamfmaaDoor
namespace Go.Proofs.YtpjnglcojamfmaaDoor
open Go.ChangeShapes Go.WideShapes Go.ChangeAt Go.RowKit
theorem ordI_lt (x y : Int) : decide (ordI x y < 0) = decide (x < y) := by
  unfold ordI
  split
  · rename_i h; simp [h]
  · rename_i h
    split <;> simp [h]
set_option maxRecDepth 100000 in
set_option maxHeartbeats 1000000 in
theorem l1Sign_any (B : Nat) (z : Value) (x : Int) (n : Nat) (w : World) (hBw : B ≤ w.heap.size) (h : NumZ B w z x n) :
    Calls Tryd.prog 31 #[z] w fun e w' => e = .returned (.int .i64 (ordI x 0)) ∧ Below w.heap.size w w' := by
  obtain ⟨z0, zn, za, zl, zc, rfl⟩ := h.shape'
  obtain ⟨neg, t, hz, hx, _⟩ := h
  have HZ := hidG hz
  have HX := hidG hx
  have HBW := hidG hBw
  have hzero : ∀ W, IsZ B W (.agg #[.int .i64 0, .bool false, .slice none 0 0]) false [] := fun W => ⟨(fun x hx => by cases hx), (fun h => absurd rfl h), .inr ⟨Nat.zero_le _, rfl⟩⟩
  have HZ0 := hidG hzero
  clear hz hx hBw hzero
  go_enter Tryd.func31, Tryd.ntmps31
  go_wp2_with fail
  refine (l1Cmp_any B _ _ neg false t [] _ (by have := HBW.out; simp; omega) (HZ.out.below (below_alloc _ _)) (HZ0.out _)).mono ?_
  rintro e w1 ⟨rfl, hb1⟩
  have e1 : sg false (val []) = 0 := rfl
  rw [cmpI_ord neg false t [] HZ.out.1 (HZ0.out w).1 HZ.out.2.1 (HZ0.out w).2.1, HX.out, e1]
  have HB1 : Hid (Below w.heap.size w w1) := (below_alloc w _).trans (hb1.mono (by simp))
  clear hb1 e1
  go_wp2
  go_ret
  exact ⟨rfl, HB1.out⟩
end Go.Proofs.YtpjnglcojamfmaaDoor
namespace Go.Proofs.YtpjnglcojamfmaaDoor
open Go.ChangeShapes Go.WideShapes Go.ChangeAt Go.RowKit
/-- The boxes of l2Make. -/
structure BxL (h : Nat) (W : World) (p0 : Int) (pn : Bool) (pa : Option Addr) (pl pc : Nat) (q0 : Int) (qn : Bool) (qa : Option Addr) (ql qc : Nat) : Prop where
  a : Bx W h [.int .i64 p0, .bool pn, .slice pa pl pc]
  b : Bx W (h + 1) [.int .i64 q0, .bool qn, .slice qa ql qc]
  r : Bx W (h + 1 + 1) [.int .i64 0, .bool false, .slice none 0 0, .int .i64 0, .bool false, .slice none 0 0]
theorem BxL.below {h N : Nat} {W W' : World} {p0 : Int} {pn : Bool} {pa : Option Addr} {pl pc : Nat} {q0 : Int} {qn : Bool} {qa : Option Addr} {ql qc : Nat} (m : BxL h W p0 pn pa pl pc q0 qn qa ql qc) (hN : h + 3 ≤ N) (hb : Below N W W') : BxL h W' p0 pn pa pl pc q0 qn qa ql qc :=
  ⟨m.a.below (by omega) hb, m.b.below (by omega) hb, m.r.below (by omega) hb⟩
theorem gcd_len2 (ng n2 : Bool) (tg t2 : List Nat) (x y : Int) (hy : 0 < y) (htg : isTrim tg) (ho2 : okL t2) (vg : sg ng (val tg) = gcdI x y) (v2 : sg n2 (val t2) = y) (len2 : t2.length ≤ 1000) : tg.length ≤ 1000 ∧ tg ≠ [] := by
  have h1 : val tg = Int.gcd x y := by
    have h := congrArg Int.natAbs vg
    rw [sg_abs] at h
    rw [h]; unfold gcdI; simp
  have h2 : val t2 = y.natAbs := by
    have h := congrArg Int.natAbs v2
    rw [sg_abs] at h
    exact h
  have h3 : 0 < Int.gcd x y := Int.gcd_pos_of_ne_zero_right _ (by omega)
  have h4 : Int.gcd x y ≤ y.natAbs := Nat.le_of_dvd (by omega) (Int.natAbs_dvd_natAbs.2 (Int.gcd_dvd_right x y))
  refine ⟨?_, ?_⟩
  · have := lenOfLe tg t2 htg ho2 (by omega)
    omega
  · rintro rfl
    simp [val] at h1
    omega
theorem sg_notR (n : Bool) (v : Nat) : sg (!n) v = -sg n v := by cases n <;> simp [sg]
theorem isLow_neg {x y a b : Int} (h : IsLow (-x) (-y) a b) : IsLow x y a b := by
  obtain ⟨c, c0, e1, e2, p, g⟩ := h
  refine ⟨-c, by omega, by rw [Int.mul_neg]; omega, by rw [Int.mul_neg]; omega, p, ?_⟩
  rw [Int.natAbs_neg, g, Int.neg_gcd, Int.gcd_neg]
theorem off3 {W : World} {g : Nat} {l : List Value} (h : Bx W g l) {k : Nat} (hk : k ≠ g) (u0 u1 u2 : Value) : Bx (((W.setCell ⟨k, 0, none⟩ u0).setCell ⟨k, 1, none⟩ u1).setCell ⟨k, 2, none⟩ u2) g l := ((h.other ⟨k, 0, none⟩ hk u0).other ⟨k, 1, none⟩ hk u1).other ⟨k, 2, none⟩ hk u2
theorem numZ_of {B : Nat} {W : World} {z : Value} {v : Int} (h : IsN B W z v) (t1 : List Nat) (ok : okL t1) (hv : v.natAbs ≤ val t1) (len : t1.length ≤ 1000) : NumZ B W z v 1000 := by
  obtain ⟨neg, t, hz, hx⟩ := h
  refine ⟨neg, t, hz, hx, ?_⟩
  have h1 : val t = v.natAbs := by rw [← hx, sg_abs]
  have := lenOfLe t t1 hz.2.1 ok (by omega)
  omega
theorem abs_le_mul (a c : Int) (hc : c ≠ 0) : a.natAbs ≤ (a * c).natAbs := by
  rw [Int.natAbs_mul]
  exact Nat.le_mul_of_pos_right _ (by omega)
theorem low_len1 {x y a b : Int} {n : Bool} {t : List Nat} (h : IsLow x y a b) (hv : sg n (val t) = x) : a.natAbs ≤ val t := by
  obtain ⟨c, c0, e1, _⟩ := h
  have h1 : val t = x.natAbs := by rw [← hv, sg_abs]
  rw [h1, e1]
  exact abs_le_mul a c c0
theorem low_len2 {x y a b : Int} {n : Bool} {t : List Nat} (h : IsLow x y a b) (hv : sg n (val t) = y) : b.natAbs ≤ val t := by
  obtain ⟨c, c0, _, e2, _⟩ := h
  have h1 : val t = y.natAbs := by rw [← hv, sg_abs]
  rw [h1, e2]
  exact abs_le_mul b c c0
set_option maxRecDepth 100000 in
set_option maxHeartbeats 4000000 in
theorem l2Make_any (B : Nat) (zp zq : Value) (x y : Int) (w : World) (hBw : B ≤ w.heap.size) (hp : NumZ B w zp x 1000) (hq : NumZ B w zq y 1000) (hy : y ≠ 0) :
    Calls Tryd.prog 16 #[zp, zq] w fun e w' => ∃ z p q, e = .returned z ∧ IsQN B w' z p q ∧ IsLow x y p q ∧ Below w.heap.size w w' := by
  obtain ⟨p0, pn, pa, pl, pc, rfl⟩ := hp.shape'
  obtain ⟨q0, qn, qa, ql, qc, rfl⟩ := hq.shape'
  have HP := hidG hp
  have HQ := hidG hq
  have HBW := hidG hBw
  clear hp hq hBw
  obtain ⟨W0, hW0⟩ : ∃ W0, ((w.alloc (.cells #[.int .i64 p0, .bool pn, .slice pa pl pc] 28)).alloc (.cells #[.int .i64 q0, .bool qn, .slice qa ql qc] 28)).alloc (.cells #[.int .i64 0, .bool false, .slice none 0 0, .int .i64 0, .bool false, .slice none 0 0] 40) = W0 := ⟨_, rfl⟩
  have HW0 := hidG hW0
  have hs0 : W0.heap.size = w.heap.size + 3 := by rw [← hW0]; simp
  have HS0 := hidG hs0
  have HB0 : Hid (Below w.heap.size w W0) := by
    show Below w.heap.size w W0
    rw [← hW0]; exact below_al (below_al (below_alloc _ _) _) _
  have HM : Hid (BxL w.heap.size W0 p0 pn pa pl pc q0 qn qa ql qc) := by
    have h1 : Bx W0 w.heap.size [.int .i64 p0, .bool pn, .slice pa pl pc] := by rw [← hW0]; exact ((bx_new w _ _).alloc _).alloc _
    have h2 : Bx W0 (w.heap.size + 1) [.int .i64 q0, .bool qn, .slice qa ql qc] := by
      rw [← hW0]
      have h := bx_new (w.alloc (.cells #[.int .i64 p0, .bool pn, .slice pa pl pc] 28)) [.int .i64 q0, .bool qn, .slice qa ql qc] 28
      rw [World.size_alloc] at h
      exact h.alloc _
    have h3 : Bx W0 (w.heap.size + 1 + 1) [.int .i64 0, .bool false, .slice none 0 0, .int .i64 0, .bool false, .slice none 0 0] := by
      rw [← hW0]
      have h := bx_new ((w.alloc (.cells #[.int .i64 p0, .bool pn, .slice pa pl pc] 28)).alloc (.cells #[.int .i64 q0, .bool qn, .slice qa ql qc] 28)) [.int .i64 0, .bool false, .slice none 0 0, .int .i64 0, .bool false, .slice none 0 0] 40
      rw [World.size_alloc, World.size_alloc] at h
      exact h
    exact ⟨h1, h2, h3⟩
  have k0 := HM.out.b.cell 0
  have k1 := HM.out.b.cell 1
  have k2 := HM.out.b.cell 2
  simp only [List.getElem?_cons_zero, List.getElem?_cons_succ] at k0 k1 k2
  clear hW0 hs0
  go_enter Tryd.func16, Tryd.ntmps16
  go_upto_region 1 with fail
  rw [HW0.out]
  go_wp2_with fail
  refine (l1Sign_any B _ y 1000 _ (by have := HBW.out; have := HS0.out; omega) (HQ.out.below HB0.out)).mono ?_
  rintro e w1 ⟨rfl, hb1⟩
  have HM1 := hidG (HM.out.below (N := W0.heap.size) (by have := HS0.out; omega) hb1)
  have HB1 := hidG (HB0.out.trans (hb1.mono HB0.out.size))
  have HS1 : Hid (w.heap.size + 3 ≤ w1.heap.size) := by have := HS0.out; have := hb1.size; show w.heap.size + 3 ≤ w1.heap.size; omega
  have HP1 := hidG (HP.out.below HB1.out)
  have HQ1 := hidG (HQ.out.below HB1.out)
  have a0 := HM1.out.a.cell 0
  have a1 := HM1.out.a.cell 1
  have a2 := HM1.out.a.cell 2
  have b0 := HM1.out.b.cell 0
  have b1 := HM1.out.b.cell 1
  have b2 := HM1.out.b.cell 2
  simp only [List.getElem?_cons_zero, List.getElem?_cons_succ] at a0 a1 a2 b0 b1 b2
  clear hb1 k0 k1 k2
  by_cases hneg : y < 0
  · have z : decide (ordI y 0 < 0) = true := by rw [ordI_lt]; exact decide_eq_true hneg
    have HYP : Hid (0 < -y) := by show 0 < -y; omega
    have HL : Hid (∀ a b, IsLow (-x) (-y) a b → IsLow x y a b) := fun a b h => isLow_neg h
    obtain ⟨np, tp, hzp, vp, lp⟩ := HP1.out
    have HZP := hidG hzp
    have HVP : Hid (sg (!np) (val tp) = -x ∧ tp.length ≤ 1000) := ⟨by rw [← vp]; exact sg_notR np _, lp⟩
    clear hzp vp lp
    go_wp2_with fail
    refine (l1Minus_any B _ np tp w1 HZP.out).mono ?_
    rintro e w2 ⟨z2, rfl, hz2, hb2⟩
    obtain ⟨P0, Pn, Pa, Pl, Pc, rfl⟩ := hz2.shape
    have hm2 := HM1.out.below (N := w1.heap.size) HS1.out hb2
    have hnA : NoInt w2 w.heap.size := noInt_of hm2.a (by simp)
    obtain ⟨W3, hW3⟩ : ∃ W3, ((w2.setCell ⟨w.heap.size, 0, none⟩ (.int .i64 P0)).setCell ⟨w.heap.size, 1, none⟩ (.bool Pn)).setCell ⟨w.heap.size, 2, none⟩ (.slice Pa Pl Pc) = W3 := ⟨_, rfl⟩
    have HW3 := hidG hW3
    have hkA := Keeps.three w2 w.heap.size (.int .i64 P0) (.bool Pn) (.slice Pa Pl Pc)
    have HP3 : Hid (NumZ B W3 (.agg #[.int .i64 P0, .bool Pn, .slice Pa Pl Pc]) (-x) 1000) := by
      have h : NumZ B w2 (.agg #[.int .i64 P0, .bool Pn, .slice Pa Pl Pc]) (-x) 1000 := ⟨_, _, hz2, HVP.out.1, HVP.out.2⟩
      have h2 := h.keeps hnA hnA hkA
      rw [hW3] at h2; exact h2
    have HQ3 : Hid (NumZ B W3 (.agg #[.int .i64 q0, .bool qn, .slice qa ql qc]) y 1000) := by
      have h2 := (HQ1.out.below hb2).keeps hnA hnA hkA
      rw [hW3] at h2; exact h2
    have HB3 : Hid (Below w.heap.size w W3) := by
      have h := belowSet3 (HB1.out.trans (hb2.mono HB1.out.size)) w.heap.size (Nat.le_refl _) (.int .i64 P0) (.bool Pn) (.slice Pa Pl Pc)
      rw [hW3] at h; exact h
    have HM3 : Hid (BxL w.heap.size W3 P0 Pn Pa Pl Pc q0 qn qa ql qc) := by
      have h1 : Bx (((w2.setCell ⟨w.heap.size, 0, none⟩ (.int .i64 P0)).setCell ⟨w.heap.size, 1, none⟩ (.bool Pn)).setCell ⟨w.heap.size, 2, none⟩ (.slice Pa Pl Pc)) w.heap.size [.int .i64 P0, .bool Pn, .slice Pa Pl Pc] := ((hm2.a.set 0 _).set 1 _).set 2 _
      have h2 := off3 hm2.b (k := w.heap.size) (by omega) (.int .i64 P0) (.bool Pn) (.slice Pa Pl Pc)
      have h3 := off3 hm2.r (k := w.heap.size) (by omega) (.int .i64 P0) (.bool Pn) (.slice Pa Pl Pc)
      rw [hW3] at h1 h2 h3
      exact ⟨h1, h2, h3⟩
    have HS3 : Hid (w.heap.size + 3 ≤ W3.heap.size) := by
      have := HM3.out.r.lt
      show w.heap.size + 3 ≤ W3.heap.size
      omega
    have c0 := hm2.a.cell 0
    have c1 := hm2.a.cell 1
    have c2 := hm2.a.cell 2
    simp only [List.getElem?_cons_zero, List.getElem?_cons_succ] at c0 c1 c2
    have x0 := hm2.a.frozen 0
    have x1 := hm2.a.frozen 1
    have x2 := hm2.a.frozen 2
    obtain ⟨nq, tq, hzq, vq, lq⟩ := HQ3.out
    have HZQ := hidG hzq
    have HVQ : Hid (sg (!nq) (val tq) = -y ∧ tq.length ≤ 1000) := ⟨by rw [← vq]; exact sg_notR nq _, lq⟩
    have d0 := HM3.out.b.cell 0
    have d1 := HM3.out.b.cell 1
    have d2 := HM3.out.b.cell 2
    simp only [List.getElem?_cons_zero, List.getElem?_cons_succ] at d0 d1 d2
    clear hz2 hb2 hm2 hnA hW3 hkA hzq vq lq a0 a1 a2 b0 b1 b2
    go_upto_region 3 with fail
    rw [HW3.out]
    clear c0 c1 c2 x0 x1 x2
    go_wp2_with fail
    refine (l1Minus_any B _ nq tq W3 HZQ.out).mono ?_
    rintro e w4 ⟨z4, rfl, hz4, hb4⟩
    obtain ⟨Q0, Qn, Qa, Ql, Qc, rfl⟩ := hz4.shape
    have hm4 := HM3.out.below (N := W3.heap.size) HS3.out hb4
    have hnB : NoInt w4 (w.heap.size + 1) := noInt_of hm4.b (by simp)
    obtain ⟨W5, hW5⟩ : ∃ W5, ((w4.setCell ⟨w.heap.size + 1, 0, none⟩ (.int .i64 Q0)).setCell ⟨w.heap.size + 1, 1, none⟩ (.bool Qn)).setCell ⟨w.heap.size + 1, 2, none⟩ (.slice Qa Ql Qc) = W5 := ⟨_, rfl⟩
    have HW5 := hidG hW5
    have hkB := Keeps.three w4 (w.heap.size + 1) (.int .i64 Q0) (.bool Qn) (.slice Qa Ql Qc)
    have HQ5 : Hid (NumZ B W5 (.agg #[.int .i64 Q0, .bool Qn, .slice Qa Ql Qc]) (-y) 1000) := by
      have h : NumZ B w4 (.agg #[.int .i64 Q0, .bool Qn, .slice Qa Ql Qc]) (-y) 1000 := ⟨_, _, hz4, HVQ.out.1, HVQ.out.2⟩
      have h2 := h.keeps hnB hnB hkB
      rw [hW5] at h2; exact h2
    have HP5 : Hid (NumZ B W5 (.agg #[.int .i64 P0, .bool Pn, .slice Pa Pl Pc]) (-x) 1000) := by
      have h2 := (HP3.out.below hb4).keeps hnB hnB hkB
      rw [hW5] at h2; exact h2
    have HB5 : Hid (Below w.heap.size w W5) := by
      have h := belowSet3 (HB3.out.trans (hb4.mono HB3.out.size)) (w.heap.size + 1) (Nat.le_succ _) (.int .i64 Q0) (.bool Qn) (.slice Qa Ql Qc)
      rw [hW5] at h; exact h
    have HM5 : Hid (BxL w.heap.size W5 P0 Pn Pa Pl Pc Q0 Qn Qa Ql Qc) := by
      have h1 := off3 hm4.a (k := w.heap.size + 1) (by omega) (.int .i64 Q0) (.bool Qn) (.slice Qa Ql Qc)
      have h2 : Bx (((w4.setCell ⟨w.heap.size + 1, 0, none⟩ (.int .i64 Q0)).setCell ⟨w.heap.size + 1, 1, none⟩ (.bool Qn)).setCell ⟨w.heap.size + 1, 2, none⟩ (.slice Qa Ql Qc)) (w.heap.size + 1) [.int .i64 Q0, .bool Qn, .slice Qa Ql Qc] := ((hm4.b.set 0 _).set 1 _).set 2 _
      have h3 := off3 hm4.r (k := w.heap.size + 1) (by omega) (.int .i64 Q0) (.bool Qn) (.slice Qa Ql Qc)
      rw [hW5] at h1 h2 h3
      exact ⟨h1, h2, h3⟩
    have HS5 : Hid (w.heap.size + 3 ≤ W5.heap.size) := by
      have := HM5.out.r.lt
      show w.heap.size + 3 ≤ W5.heap.size
      omega
    have c0 := hm4.b.cell 0
    have c1 := hm4.b.cell 1
    have c2 := hm4.b.cell 2
    simp only [List.getElem?_cons_zero, List.getElem?_cons_succ] at c0 c1 c2
    have x0 := hm4.b.frozen 0
    have x1 := hm4.b.frozen 1
    have x2 := hm4.b.frozen 2
    clear hz4 hb4 hm4 hnB hW5 hkB d0 d1 d2
    go_upto_region 4 with fail
    rw [HW5.out]
    clear c0 c1 c2 x0 x1 x2
    have a0 := HM5.out.a.cell 0
    have a1 := HM5.out.a.cell 1
    have a2 := HM5.out.a.cell 2
    have b0 := HM5.out.b.cell 0
    have b1 := HM5.out.b.cell 1
    have b2 := HM5.out.b.cell 2
    simp only [List.getElem?_cons_zero, List.getElem?_cons_succ] at a0 a1 a2 b0 b1 b2
    clear HP3 HQ3 HB3 HM3 HS3 HW3
    go_wp2_with fail
    refine (l1IsSmall_ex Q0 Qn Qa Ql Qc W5).mono ?_
    rintro e w3 ⟨rfl, hw3⟩
    have hb3 : Below W5.heap.size W5 w3 := by rw [hw3]; exact below_alloc _ _
    have HM3 := hidG (HM5.out.below (N := W5.heap.size) HS5.out hb3)
    have HB3 := hidG (HB5.out.trans (hb3.mono HB5.out.size))
    have HP3 := hidG (HP5.out.below hb3)
    have HQ3 := hidG (HQ5.out.below hb3)
    have HS3 : Hid (w.heap.size + 3 ≤ w3.heap.size) := Nat.le_trans HS5.out hb3.size
    have HONE := hidG (isN_one HQ5.out.isN)
    clear hw3 hb3 a0 a1 a2 b0 b1 b2
    have a0 := HM3.out.a.cell 0
    have a1 := HM3.out.a.cell 1
    have a2 := HM3.out.a.cell 2
    have b0 := HM3.out.b.cell 0
    have b1 := HM3.out.b.cell 1
    have b2 := HM3.out.b.cell 2
    simp only [List.getElem?_cons_zero, List.getElem?_cons_succ] at a0 a1 a2 b0 b1 b2
    by_cases h1 : -y = 1
    · have hone := HONE.out
      rw [decide_eq_true h1, Bool.and_eq_true] at hone
      obtain ⟨z1, z2⟩ := hone
      rw [z1]
      have HLOW : Hid (IsLow x y (-x) (-y)) := HL.out _ _ (isLow_one HYP.out (by rw [h1]; simp))
      have r0 := HM3.out.r.cell 0
      have r1 := HM3.out.r.cell 1
      have r2 := HM3.out.r.cell 2
      have r3 := HM3.out.r.cell 3
      have r4 := HM3.out.r.cell 4
      have r5 := HM3.out.r.cell 5
      simp only [List.getElem?_cons_zero, List.getElem?_cons_succ] at r0 r1 r2 r3 r4 r5
      have f0 := HM3.out.r.frozen 0
      have f1 := HM3.out.r.frozen 1
      have f2 := HM3.out.r.frozen 2
      have f3 := HM3.out.r.frozen 3
      have f4 := HM3.out.r.frozen 4
      have f5 := HM3.out.r.frozen 5
      go_wp2
      have hnR : NoInt w3 (w.heap.size + 1 + 1) := noInt_of HM3.out.r (by simp)
      have hk := keeps6 w3 (w.heap.size + 1 + 1) (.int .i64 P0) (.bool Pn) (.slice Pa Pl Pc) (.int .i64 Q0) (.bool Qn) (.slice Qa Ql Qc)
      have hP9 := HP3.out.keeps hnR hnR hk
      have hQ9 := HQ3.out.keeps hnR hnR hk
      have hB9 := set6 HB3.out (w.heap.size + 1 + 1) (by omega) (.int .i64 P0) (.bool Pn) (.slice Pa Pl Pc) (.int .i64 Q0) (.bool Qn) (.slice Qa Ql Qc)
      have hZ := HM3.out.r.put6 (.int .i64 P0) (.bool Pn) (.slice Pa Pl Pc) (.int .i64 Q0) (.bool Qn) (.slice Qa Ql Qc)
      have hWW : ((((((w3.setCell ⟨w.heap.size + 1 + 1, 0, none⟩ (.int .i64 P0)).setCell ⟨w.heap.size + 1 + 1, 1, none⟩ (.bool Pn)).setCell ⟨w.heap.size + 1 + 1, 2, none⟩ (.slice Pa Pl Pc)).setCell ⟨w.heap.size + 1 + 1, 3, none⟩ (.int .i64 Q0)).setCell ⟨w.heap.size + 1 + 1, 4, none⟩ (.bool Qn)).setCell ⟨w.heap.size + 1 + 1, 5, none⟩ (.slice Qa Ql Qc)) = W6 w3 (w.heap.size + 1 + 1) (.int .i64 P0) (.bool Pn) (.slice Pa Pl Pc) (.int .i64 Q0) (.bool Qn) (.slice Qa Ql Qc) := rfl
      rw [hWW]
      generalize W6 w3 (w.heap.size + 1 + 1) (.int .i64 P0) (.bool Pn) (.slice Pa Pl Pc) (.int .i64 Q0) (.bool Qn) (.slice Qa Ql Qc) = W9 at *
      have m0 := hZ.cell 0
      have m1 := hZ.cell 1
      have m2 := hZ.cell 2
      have m3 := hZ.cell 3
      have m4 := hZ.cell 4
      have m5 := hZ.cell 5
      simp only [List.getElem?_cons_zero, List.getElem?_cons_succ] at m0 m1 m2 m3 m4 m5
      refine bodyPost_ret (v := .agg #[.int .i64 P0, .bool Pn, .slice Pa Pl Pc, .int .i64 Q0, .bool Qn, .slice Qa Ql Qc]) ?_ rfl ⟨_, _, _, rfl, ⟨P0, Pn, Pa, Pl, Pc, Q0, Qn, Qa, Ql, Qc, rfl, hP9, hQ9⟩, HLOW.out, hB9⟩
      simp [results, Tryd.results16, go_sem, m0, m1, m2, m3, m4, m5]
    · have hone := HONE.out
      rw [decide_eq_false h1] at hone
      by_cases hz : Ql = 0
      · have z1 : ((Ql : Int) == 0) = true := by rw [beq_iff_eq]; omega
        have z2 : (Q0 == 1) = false := by rw [z1] at hone; exact hone
        rw [z1]
        clear hone hz
        go_wp2_with fail
        obtain ⟨n1, t1, hz1, v1, len1⟩ := HP3.out
        obtain ⟨n2, t2, hz2, v2, len2⟩ := HQ3.out
        have HZZ := hidG (And.intro hz1 hz2)
        have HVV := hidG (And.intro v1 v2)
        clear hz1 hz2 v1 v2
        refine (l1Gcd_any B _ _ n1 n2 t1 t2 1000 _ (by have := HBW.out; have := HB3.out.size; omega) HZZ.out.1 HZZ.out.2 len1 len2 (by omega)).mono ?_
        rintro e w4 ⟨zg, rfl, hg, hb4⟩
        rw [HVV.out.1, HVV.out.2] at hg
        obtain ⟨g0, gn, ga, gl, gc, rfl⟩ := hg.shape
        obtain ⟨W5, hW5⟩ : ∃ W5, w4.alloc (.cells #[.int .i64 g0, .bool gn, .slice ga gl gc] 28) = W5 := ⟨_, rfl⟩
        have HW5 := hidG hW5
        have hb5 : Below w4.heap.size w4 W5 := by rw [← hW5]; exact below_alloc _ _
        have hgx : Bx W5 w4.heap.size [.int .i64 g0, .bool gn, .slice ga gl gc] := by rw [← hW5]; exact bx_new w4 _ _
        have hb35 : Below w3.heap.size w3 W5 := hb4.trans (hb5.mono hb4.size)
        have HM5 := hidG (HM3.out.below (N := w3.heap.size) HS3.out hb35)
        have HB5 := hidG (HB3.out.trans (hb35.mono HB3.out.size))
        have HS5 : Hid (w.heap.size + 3 ≤ w4.heap.size) := Nat.le_trans HS3.out hb4.size
        have HG5 := hidG (hg.below hb5)
        have HZ5 := hidG (And.intro (HZZ.out.1.below hb35) (HZZ.out.2.below hb35))
        have HGX : Hid (∀ W, Below W5.heap.size W5 W → Bx W w4.heap.size [.int .i64 g0, .bool gn, .slice ga gl gc]) := fun W hW => hgx.below hgx.lt hW
        have g1 := hgx.cell 0
        have g2 := hgx.cell 1
        have g3 := hgx.cell 2
        simp only [List.getElem?_cons_zero, List.getElem?_cons_succ] at g1 g2 g3
        clear hg hW5 hb4 hb5 hgx hb35 a0 a1 a2 b0 b1 b2
        go_upto_region 8 with fail
        rw [HW5.out]
        refine (l1IsSmall_ex g0 gn ga gl gc W5).mono ?_
        rintro e w6 ⟨rfl, hw6⟩
        have hb6 : Below W5.heap.size W5 w6 := by rw [hw6]; exact below_alloc _ _
        have HSW : Hid (w.heap.size + 3 ≤ W5.heap.size) := Nat.le_trans HS5.out (Nat.le_of_lt (HGX.out W5 (Below.refl _ _)).lt)
        have HM6 := hidG (HM5.out.below (N := W5.heap.size) HSW.out hb6)
        have HB6 := hidG (HB5.out.trans (hb6.mono HB5.out.size))
        have HG6 := hidG (HG5.out.below hb6)
        have HZ6 := hidG (And.intro (HZ5.out.1.below hb6) (HZ5.out.2.below hb6))
        have HGO := hidG (isN_one HG5.out)
        have hx6 := HGX.out w6 hb6
        have g1' := hx6.cell 0
        have g2' := hx6.cell 1
        have g3' := hx6.cell 2
        simp only [List.getElem?_cons_zero, List.getElem?_cons_succ] at g1' g2' g3'
        have HS6 : Hid (w.heap.size + 3 ≤ w6.heap.size) := Nat.le_trans HSW.out hb6.size
        have HGX6 : Hid (∀ W, Below w6.heap.size w6 W → Bx W w4.heap.size [.int .i64 g0, .bool gn, .slice ga gl gc]) := fun W hW => HGX.out W ((show Below W5.heap.size W5 w6 from hb6).trans (hW.mono hb6.size))
        clear hw6 hb6 hx6 g1 g2 g3
        have a0 := HM6.out.a.cell 0
        have a1 := HM6.out.a.cell 1
        have a2 := HM6.out.a.cell 2
        have b0 := HM6.out.b.cell 0
        have b1 := HM6.out.b.cell 1
        have b2 := HM6.out.b.cell 2
        simp only [List.getElem?_cons_zero, List.getElem?_cons_succ] at a0 a1 a2 b0 b1 b2
        by_cases hg1 : gcdI (-x) (-y) = 1
        · have hone := HGO.out
          rw [decide_eq_true hg1, Bool.and_eq_true] at hone
          obtain ⟨y1, y2⟩ := hone
          rw [y1]
          have HP6 : Hid (NumZ B w6 (.agg #[.int .i64 P0, .bool Pn, .slice Pa Pl Pc]) (-x) 1000) := ⟨_, _, HZ6.out.1, HVV.out.1, len1⟩
          have HQ6 : Hid (NumZ B w6 (.agg #[.int .i64 Q0, .bool Qn, .slice Qa Ql Qc]) (-y) 1000) := ⟨_, _, HZ6.out.2, HVV.out.2, len2⟩
          have HLOW : Hid (IsLow x y (-x) (-y)) := HL.out _ _ (isLow_one HYP.out (by unfold gcdI at hg1; omega))
          clear y1
          have r0 := HM6.out.r.cell 0
          have r1 := HM6.out.r.cell 1
          have r2 := HM6.out.r.cell 2
          have r3 := HM6.out.r.cell 3
          have r4 := HM6.out.r.cell 4
          have r5 := HM6.out.r.cell 5
          simp only [List.getElem?_cons_zero, List.getElem?_cons_succ] at r0 r1 r2 r3 r4 r5
          have f0 := HM6.out.r.frozen 0
          have f1 := HM6.out.r.frozen 1
          have f2 := HM6.out.r.frozen 2
          have f3 := HM6.out.r.frozen 3
          have f4 := HM6.out.r.frozen 4
          have f5 := HM6.out.r.frozen 5
          go_wp2
          have hnR : NoInt w6 (w.heap.size + 1 + 1) := noInt_of HM6.out.r (by simp)
          have hk := keeps6 w6 (w.heap.size + 1 + 1) (.int .i64 P0) (.bool Pn) (.slice Pa Pl Pc) (.int .i64 Q0) (.bool Qn) (.slice Qa Ql Qc)
          have hP9 := HP6.out.keeps hnR hnR hk
          have hQ9 := HQ6.out.keeps hnR hnR hk
          have hB9 := set6 HB6.out (w.heap.size + 1 + 1) (by omega) (.int .i64 P0) (.bool Pn) (.slice Pa Pl Pc) (.int .i64 Q0) (.bool Qn) (.slice Qa Ql Qc)
          have hZ := HM6.out.r.put6 (.int .i64 P0) (.bool Pn) (.slice Pa Pl Pc) (.int .i64 Q0) (.bool Qn) (.slice Qa Ql Qc)
          have hWW : ((((((w6.setCell ⟨w.heap.size + 1 + 1, 0, none⟩ (.int .i64 P0)).setCell ⟨w.heap.size + 1 + 1, 1, none⟩ (.bool Pn)).setCell ⟨w.heap.size + 1 + 1, 2, none⟩ (.slice Pa Pl Pc)).setCell ⟨w.heap.size + 1 + 1, 3, none⟩ (.int .i64 Q0)).setCell ⟨w.heap.size + 1 + 1, 4, none⟩ (.bool Qn)).setCell ⟨w.heap.size + 1 + 1, 5, none⟩ (.slice Qa Ql Qc)) = W6 w6 (w.heap.size + 1 + 1) (.int .i64 P0) (.bool Pn) (.slice Pa Pl Pc) (.int .i64 Q0) (.bool Qn) (.slice Qa Ql Qc) := rfl
          rw [hWW]
          generalize W6 w6 (w.heap.size + 1 + 1) (.int .i64 P0) (.bool Pn) (.slice Pa Pl Pc) (.int .i64 Q0) (.bool Qn) (.slice Qa Ql Qc) = W9 at *
          have m0 := hZ.cell 0
          have m1 := hZ.cell 1
          have m2 := hZ.cell 2
          have m3 := hZ.cell 3
          have m4 := hZ.cell 4
          have m5 := hZ.cell 5
          simp only [List.getElem?_cons_zero, List.getElem?_cons_succ] at m0 m1 m2 m3 m4 m5
          refine bodyPost_ret (v := .agg #[.int .i64 P0, .bool Pn, .slice Pa Pl Pc, .int .i64 Q0, .bool Qn, .slice Qa Ql Qc]) ?_ rfl ⟨_, _, _, rfl, ⟨P0, Pn, Pa, Pl, Pc, Q0, Qn, Qa, Ql, Qc, rfl, hP9, hQ9⟩, HLOW.out, hB9⟩
          simp [results, Tryd.results16, go_sem, m0, m1, m2, m3, m4, m5]
        · have hone := HGO.out
          rw [decide_eq_false hg1] at hone
          obtain ⟨ng, tg, hzg, vg⟩ := HG6.out
          have HZG := hidG hzg
          have HVG := hidG vg
          have HLEN : Hid (tg.length ≤ 1000 ∧ tg ≠ []) := gcd_len2 ng n2 tg t2 (-x) (-y) HYP.out hzg.2.1 HZ6.out.2.1 vg HVV.out.2 len2
          clear hzg vg
          by_cases hz : gl = 0
          · have y1 : ((gl : Int) == 0) = true := by rw [beq_iff_eq]; omega
            have y2 : (g0 == 1) = false := by rw [y1] at hone; exact hone
            rw [y1]
            clear hone hz
            go_wp2_with fail
            refine (l1Div_any B _ _ n1 ng t1 tg _ (by have := HBW.out; have := HB6.out.size; omega) HZ6.out.1 HZG.out (by omega) (by have := HLEN.out.1; omega) HLEN.out.2).mono ?_
            rintro e w7 ⟨za, zr, qa1, ra1, rfl, ⟨hna, hnr⟩, hda, hb7⟩
            rw [HVV.out.1, HVG.out] at hda
            have HDA := hidG hda
            obtain ⟨d0, dn, da, dl, dc, rfl⟩ := hna.shape
            obtain ⟨e0, en, ea, el, ec, rfl⟩ := hnr.shape
            obtain ⟨W8, hW8⟩ : ∃ W8, (w7.alloc (.cells #[.int .i64 d0, .bool dn, .slice da dl dc] 28)).alloc (.cells #[.int .i64 e0, .bool en, .slice ea el ec] 28) = W8 := ⟨_, rfl⟩
            have HW8 := hidG hW8
            have hb8 : Below w7.heap.size w7 W8 := by rw [← hW8]; exact below_al (below_alloc _ _) _
            have hax : Bx W8 w7.heap.size [.int .i64 d0, .bool dn, .slice da dl dc] := by rw [← hW8]; exact (bx_new w7 _ _).alloc _
            have hb68 : Below w6.heap.size w6 W8 := hb7.trans (hb8.mono hb7.size)
            have HM8 := hidG (HM6.out.below (N := w6.heap.size) HS6.out hb68)
            have HB8 := hidG (HB6.out.trans (hb68.mono HB6.out.size))
            have HS8 : Hid (w.heap.size + 3 ≤ W8.heap.size) := Nat.le_trans HS6.out hb68.size
            have HZ8 := hidG (And.intro (HZ6.out.2.below hb68) (HZG.out.below hb68))
            have HNA : Hid (IsN B W8 (.agg #[.int .i64 d0, .bool dn, .slice da dl dc]) qa1) := (hna.below hb8).mono (by have := HBW.out; have := HB6.out.size; omega)
            have HAX : Hid (∀ W, Below W8.heap.size W8 W → Bx W w7.heap.size [.int .i64 d0, .bool dn, .slice da dl dc]) := fun W hW => hax.below hax.lt hW
            have hg8 := HGX6.out W8 hb68
            have g1'' := hg8.cell 0
            have g2'' := hg8.cell 1
            have g3'' := hg8.cell 2
            have b0' := HM8.out.b.cell 0
            have b1' := HM8.out.b.cell 1
            have b2' := HM8.out.b.cell 2
            simp only [List.getElem?_cons_zero, List.getElem?_cons_succ] at g1'' g2'' g3'' b0' b1' b2'
            clear hna hnr hda hb7 hW8 hb8 hax hb68 hg8 a0 a1 a2 b0 b1 b2 g1' g2' g3'
            go_upto_region 10 with fail
            rw [HW8.out]
            go_wp2_with fail
            refine (l1Div_any B _ _ n2 ng t2 tg W8 (by have := HBW.out; have := HB8.out.size; omega) HZ8.out.1 HZ8.out.2 (by omega) (by have := HLEN.out.1; omega) HLEN.out.2).mono ?_
            rintro e w9 ⟨zb, zs, qb1, rb1, rfl, ⟨hnb, hns⟩, hdb, hb9⟩
            rw [HVV.out.2, HVG.out] at hdb
            have HLO := hidG (low_of_div (-x) (-y) (gcdI (-x) (-y)) qa1 ra1 qb1 rb1 (by have := HYP.out; omega) (by rw [if_neg (by have := HYP.out; omega)]) HDA.out hdb)
            obtain ⟨i0, iN, ia, il, ic, rfl⟩ := hnb.shape
            obtain ⟨j0, jn, ja, jl, jc, rfl⟩ := hns.shape
            obtain ⟨W10, hW10⟩ : ∃ W10, (w9.alloc (.cells #[.int .i64 i0, .bool iN, .slice ia il ic] 28)).alloc (.cells #[.int .i64 j0, .bool jn, .slice ja jl jc] 28) = W10 := ⟨_, rfl⟩
            have HW10 := hidG hW10
            have hb10 : Below w9.heap.size w9 W10 := by rw [← hW10]; exact below_al (below_alloc _ _) _
            have hbx : Bx W10 w9.heap.size [.int .i64 i0, .bool iN, .slice ia il ic] := by rw [← hW10]; exact (bx_new w9 _ _).alloc _
            have hb810 : Below W8.heap.size W8 W10 := hb9.trans (hb10.mono hb9.size)
            have HM10 := hidG (HM8.out.below (N := W8.heap.size) HS8.out hb810)
            have HB10 := hidG (HB8.out.trans (hb810.mono HB8.out.size))
            have HP10 : Hid (NumZ B W10 (.agg #[.int .i64 d0, .bool dn, .slice da dl dc]) qa1 1000) := numZ_of (HNA.out.below hb810) t1 HZ6.out.1.1 (low_len1 HLO.out HVV.out.1) len1
            have HQ10 : Hid (NumZ B W10 (.agg #[.int .i64 i0, .bool iN, .slice ia il ic]) qb1 1000) := numZ_of ((hnb.below hb10).mono (by have := HBW.out; have := HB8.out.size; omega)) t2 HZ6.out.2.1 (low_len2 HLO.out HVV.out.2) len2
            have HLOW := hidG (HL.out _ _ HLO.out)
            have hax := HAX.out W10 hb810
            have u0 := hax.cell 0
            have u1 := hax.cell 1
            have u2 := hax.cell 2
            have v0 := hbx.cell 0
            have v1 := hbx.cell 1
            have v2 := hbx.cell 2
            simp only [List.getElem?_cons_zero, List.getElem?_cons_succ] at u0 u1 u2 v0 v1 v2
            clear hnb hns hdb hb9 hW10 hb10 hbx hb810 hax b0' b1' b2' g1'' g2'' g3''
            go_upto_region 11 with fail
            rw [HW10.out]
            have r0 := HM10.out.r.cell 0
            have r1 := HM10.out.r.cell 1
            have r2 := HM10.out.r.cell 2
            have r3 := HM10.out.r.cell 3
            have r4 := HM10.out.r.cell 4
            have r5 := HM10.out.r.cell 5
            simp only [List.getElem?_cons_zero, List.getElem?_cons_succ] at r0 r1 r2 r3 r4 r5
            have f0 := HM10.out.r.frozen 0
            have f1 := HM10.out.r.frozen 1
            have f2 := HM10.out.r.frozen 2
            have f3 := HM10.out.r.frozen 3
            have f4 := HM10.out.r.frozen 4
            have f5 := HM10.out.r.frozen 5
            go_wp2
            have hnR : NoInt W10 (w.heap.size + 1 + 1) := noInt_of HM10.out.r (by simp)
            have hk := keeps6 W10 (w.heap.size + 1 + 1) (.int .i64 d0) (.bool dn) (.slice da dl dc) (.int .i64 i0) (.bool iN) (.slice ia il ic)
            have hP9 := HP10.out.keeps hnR hnR hk
            have hQ9 := HQ10.out.keeps hnR hnR hk
            have hB9 := set6 HB10.out (w.heap.size + 1 + 1) (by omega) (.int .i64 d0) (.bool dn) (.slice da dl dc) (.int .i64 i0) (.bool iN) (.slice ia il ic)
            have hZ := HM10.out.r.put6 (.int .i64 d0) (.bool dn) (.slice da dl dc) (.int .i64 i0) (.bool iN) (.slice ia il ic)
            have hWW : ((((((W10.setCell ⟨w.heap.size + 1 + 1, 0, none⟩ (.int .i64 d0)).setCell ⟨w.heap.size + 1 + 1, 1, none⟩ (.bool dn)).setCell ⟨w.heap.size + 1 + 1, 2, none⟩ (.slice da dl dc)).setCell ⟨w.heap.size + 1 + 1, 3, none⟩ (.int .i64 i0)).setCell ⟨w.heap.size + 1 + 1, 4, none⟩ (.bool iN)).setCell ⟨w.heap.size + 1 + 1, 5, none⟩ (.slice ia il ic)) = W6 W10 (w.heap.size + 1 + 1) (.int .i64 d0) (.bool dn) (.slice da dl dc) (.int .i64 i0) (.bool iN) (.slice ia il ic) := rfl
            rw [hWW]
            generalize W6 W10 (w.heap.size + 1 + 1) (.int .i64 d0) (.bool dn) (.slice da dl dc) (.int .i64 i0) (.bool iN) (.slice ia il ic) = W9 at *
            have m0 := hZ.cell 0
            have m1 := hZ.cell 1
            have m2 := hZ.cell 2
            have m3 := hZ.cell 3
            have m4 := hZ.cell 4
            have m5 := hZ.cell 5
            simp only [List.getElem?_cons_zero, List.getElem?_cons_succ] at m0 m1 m2 m3 m4 m5
            refine bodyPost_ret (v := .agg #[.int .i64 d0, .bool dn, .slice da dl dc, .int .i64 i0, .bool iN, .slice ia il ic]) ?_ rfl ⟨_, _, _, rfl, ⟨d0, dn, da, dl, dc, i0, iN, ia, il, ic, rfl, hP9, hQ9⟩, HLOW.out, hB9⟩
            simp [results, Tryd.results16, go_sem, m0, m1, m2, m3, m4, m5]
          · have y1 : ((gl : Int) == 0) = false := by rw [beq_eq_false_iff_ne]; omega
            rw [y1]
            clear hone hz
            go_wp2_with fail
            refine (l1Div_any B _ _ n1 ng t1 tg _ (by have := HBW.out; have := HB6.out.size; omega) HZ6.out.1 HZG.out (by omega) (by have := HLEN.out.1; omega) HLEN.out.2).mono ?_
            rintro e w7 ⟨za, zr, qa1, ra1, rfl, ⟨hna, hnr⟩, hda, hb7⟩
            rw [HVV.out.1, HVG.out] at hda
            have HDA := hidG hda
            obtain ⟨d0, dn, da, dl, dc, rfl⟩ := hna.shape
            obtain ⟨e0, en, ea, el, ec, rfl⟩ := hnr.shape
            obtain ⟨W8, hW8⟩ : ∃ W8, (w7.alloc (.cells #[.int .i64 d0, .bool dn, .slice da dl dc] 28)).alloc (.cells #[.int .i64 e0, .bool en, .slice ea el ec] 28) = W8 := ⟨_, rfl⟩
            have HW8 := hidG hW8
            have hb8 : Below w7.heap.size w7 W8 := by rw [← hW8]; exact below_al (below_alloc _ _) _
            have hax : Bx W8 w7.heap.size [.int .i64 d0, .bool dn, .slice da dl dc] := by rw [← hW8]; exact (bx_new w7 _ _).alloc _
            have hb68 : Below w6.heap.size w6 W8 := hb7.trans (hb8.mono hb7.size)
            have HM8 := hidG (HM6.out.below (N := w6.heap.size) HS6.out hb68)
            have HB8 := hidG (HB6.out.trans (hb68.mono HB6.out.size))
            have HS8 : Hid (w.heap.size + 3 ≤ W8.heap.size) := Nat.le_trans HS6.out hb68.size
            have HZ8 := hidG (And.intro (HZ6.out.2.below hb68) (HZG.out.below hb68))
            have HNA : Hid (IsN B W8 (.agg #[.int .i64 d0, .bool dn, .slice da dl dc]) qa1) := (hna.below hb8).mono (by have := HBW.out; have := HB6.out.size; omega)
            have HAX : Hid (∀ W, Below W8.heap.size W8 W → Bx W w7.heap.size [.int .i64 d0, .bool dn, .slice da dl dc]) := fun W hW => hax.below hax.lt hW
            have hg8 := HGX6.out W8 hb68
            have g1'' := hg8.cell 0
            have g2'' := hg8.cell 1
            have g3'' := hg8.cell 2
            have b0' := HM8.out.b.cell 0
            have b1' := HM8.out.b.cell 1
            have b2' := HM8.out.b.cell 2
            simp only [List.getElem?_cons_zero, List.getElem?_cons_succ] at g1'' g2'' g3'' b0' b1' b2'
            clear hna hnr hda hb7 hW8 hb8 hax hb68 hg8 a0 a1 a2 b0 b1 b2 g1' g2' g3'
            go_upto_region 10 with fail
            rw [HW8.out]
            go_wp2_with fail
            refine (l1Div_any B _ _ n2 ng t2 tg W8 (by have := HBW.out; have := HB8.out.size; omega) HZ8.out.1 HZ8.out.2 (by omega) (by have := HLEN.out.1; omega) HLEN.out.2).mono ?_
            rintro e w9 ⟨zb, zs, qb1, rb1, rfl, ⟨hnb, hns⟩, hdb, hb9⟩
            rw [HVV.out.2, HVG.out] at hdb
            have HLO := hidG (low_of_div (-x) (-y) (gcdI (-x) (-y)) qa1 ra1 qb1 rb1 (by have := HYP.out; omega) (by rw [if_neg (by have := HYP.out; omega)]) HDA.out hdb)
            obtain ⟨i0, iN, ia, il, ic, rfl⟩ := hnb.shape
            obtain ⟨j0, jn, ja, jl, jc, rfl⟩ := hns.shape
            obtain ⟨W10, hW10⟩ : ∃ W10, (w9.alloc (.cells #[.int .i64 i0, .bool iN, .slice ia il ic] 28)).alloc (.cells #[.int .i64 j0, .bool jn, .slice ja jl jc] 28) = W10 := ⟨_, rfl⟩
            have HW10 := hidG hW10
            have hb10 : Below w9.heap.size w9 W10 := by rw [← hW10]; exact below_al (below_alloc _ _) _
            have hbx : Bx W10 w9.heap.size [.int .i64 i0, .bool iN, .slice ia il ic] := by rw [← hW10]; exact (bx_new w9 _ _).alloc _
            have hb810 : Below W8.heap.size W8 W10 := hb9.trans (hb10.mono hb9.size)
            have HM10 := hidG (HM8.out.below (N := W8.heap.size) HS8.out hb810)
            have HB10 := hidG (HB8.out.trans (hb810.mono HB8.out.size))
            have HP10 : Hid (NumZ B W10 (.agg #[.int .i64 d0, .bool dn, .slice da dl dc]) qa1 1000) := numZ_of (HNA.out.below hb810) t1 HZ6.out.1.1 (low_len1 HLO.out HVV.out.1) len1
            have HQ10 : Hid (NumZ B W10 (.agg #[.int .i64 i0, .bool iN, .slice ia il ic]) qb1 1000) := numZ_of ((hnb.below hb10).mono (by have := HBW.out; have := HB8.out.size; omega)) t2 HZ6.out.2.1 (low_len2 HLO.out HVV.out.2) len2
            have HLOW := hidG (HL.out _ _ HLO.out)
            have hax := HAX.out W10 hb810
            have u0 := hax.cell 0
            have u1 := hax.cell 1
            have u2 := hax.cell 2
            have v0 := hbx.cell 0
            have v1 := hbx.cell 1
            have v2 := hbx.cell 2
            simp only [List.getElem?_cons_zero, List.getElem?_cons_succ] at u0 u1 u2 v0 v1 v2
            clear hnb hns hdb hb9 hW10 hb10 hbx hb810 hax b0' b1' b2' g1'' g2'' g3''
            go_upto_region 11 with fail
            rw [HW10.out]
            have r0 := HM10.out.r.cell 0
            have r1 := HM10.out.r.cell 1
            have r2 := HM10.out.r.cell 2
            have r3 := HM10.out.r.cell 3
            have r4 := HM10.out.r.cell 4
            have r5 := HM10.out.r.cell 5
            simp only [List.getElem?_cons_zero, List.getElem?_cons_succ] at r0 r1 r2 r3 r4 r5
            have f0 := HM10.out.r.frozen 0
            have f1 := HM10.out.r.frozen 1
            have f2 := HM10.out.r.frozen 2
            have f3 := HM10.out.r.frozen 3
            have f4 := HM10.out.r.frozen 4
            have f5 := HM10.out.r.frozen 5
            go_wp2
            have hnR : NoInt W10 (w.heap.size + 1 + 1) := noInt_of HM10.out.r (by simp)
            have hk := keeps6 W10 (w.heap.size + 1 + 1) (.int .i64 d0) (.bool dn) (.slice da dl dc) (.int .i64 i0) (.bool iN) (.slice ia il ic)
            have hP9 := HP10.out.keeps hnR hnR hk
            have hQ9 := HQ10.out.keeps hnR hnR hk
            have hB9 := set6 HB10.out (w.heap.size + 1 + 1) (by omega) (.int .i64 d0) (.bool dn) (.slice da dl dc) (.int .i64 i0) (.bool iN) (.slice ia il ic)
            have hZ := HM10.out.r.put6 (.int .i64 d0) (.bool dn) (.slice da dl dc) (.int .i64 i0) (.bool iN) (.slice ia il ic)
            have hWW : ((((((W10.setCell ⟨w.heap.size + 1 + 1, 0, none⟩ (.int .i64 d0)).setCell ⟨w.heap.size + 1 + 1, 1, none⟩ (.bool dn)).setCell ⟨w.heap.size + 1 + 1, 2, none⟩ (.slice da dl dc)).setCell ⟨w.heap.size + 1 + 1, 3, none⟩ (.int .i64 i0)).setCell ⟨w.heap.size + 1 + 1, 4, none⟩ (.bool iN)).setCell ⟨w.heap.size + 1 + 1, 5, none⟩ (.slice ia il ic)) = W6 W10 (w.heap.size + 1 + 1) (.int .i64 d0) (.bool dn) (.slice da dl dc) (.int .i64 i0) (.bool iN) (.slice ia il ic) := rfl
            rw [hWW]
            generalize W6 W10 (w.heap.size + 1 + 1) (.int .i64 d0) (.bool dn) (.slice da dl dc) (.int .i64 i0) (.bool iN) (.slice ia il ic) = W9 at *
            have m0 := hZ.cell 0
            have m1 := hZ.cell 1
            have m2 := hZ.cell 2
            have m3 := hZ.cell 3
            have m4 := hZ.cell 4
            have m5 := hZ.cell 5
            simp only [List.getElem?_cons_zero, List.getElem?_cons_succ] at m0 m1 m2 m3 m4 m5
            refine bodyPost_ret (v := .agg #[.int .i64 d0, .bool dn, .slice da dl dc, .int .i64 i0, .bool iN, .slice ia il ic]) ?_ rfl ⟨_, _, _, rfl, ⟨d0, dn, da, dl, dc, i0, iN, ia, il, ic, rfl, hP9, hQ9⟩, HLOW.out, hB9⟩
            simp [results, Tryd.results16, go_sem, m0, m1, m2, m3, m4, m5]
      · have z1 : ((Ql : Int) == 0) = false := by rw [beq_eq_false_iff_ne]; omega
        rw [z1]
        clear hone hz
        go_wp2_with fail
        obtain ⟨n1, t1, hz1, v1, len1⟩ := HP3.out
        obtain ⟨n2, t2, hz2, v2, len2⟩ := HQ3.out
        have HZZ := hidG (And.intro hz1 hz2)
        have HVV := hidG (And.intro v1 v2)
        clear hz1 hz2 v1 v2
        refine (l1Gcd_any B _ _ n1 n2 t1 t2 1000 _ (by have := HBW.out; have := HB3.out.size; omega) HZZ.out.1 HZZ.out.2 len1 len2 (by omega)).mono ?_
        rintro e w4 ⟨zg, rfl, hg, hb4⟩
        rw [HVV.out.1, HVV.out.2] at hg
        obtain ⟨g0, gn, ga, gl, gc, rfl⟩ := hg.shape
        obtain ⟨W5, hW5⟩ : ∃ W5, w4.alloc (.cells #[.int .i64 g0, .bool gn, .slice ga gl gc] 28) = W5 := ⟨_, rfl⟩
        have HW5 := hidG hW5
        have hb5 : Below w4.heap.size w4 W5 := by rw [← hW5]; exact below_alloc _ _
        have hgx : Bx W5 w4.heap.size [.int .i64 g0, .bool gn, .slice ga gl gc] := by rw [← hW5]; exact bx_new w4 _ _
        have hb35 : Below w3.heap.size w3 W5 := hb4.trans (hb5.mono hb4.size)
        have HM5 := hidG (HM3.out.below (N := w3.heap.size) HS3.out hb35)
        have HB5 := hidG (HB3.out.trans (hb35.mono HB3.out.size))
        have HS5 : Hid (w.heap.size + 3 ≤ w4.heap.size) := Nat.le_trans HS3.out hb4.size
        have HG5 := hidG (hg.below hb5)
        have HZ5 := hidG (And.intro (HZZ.out.1.below hb35) (HZZ.out.2.below hb35))
        have HGX : Hid (∀ W, Below W5.heap.size W5 W → Bx W w4.heap.size [.int .i64 g0, .bool gn, .slice ga gl gc]) := fun W hW => hgx.below hgx.lt hW
        have g1 := hgx.cell 0
        have g2 := hgx.cell 1
        have g3 := hgx.cell 2
        simp only [List.getElem?_cons_zero, List.getElem?_cons_succ] at g1 g2 g3
        clear hg hW5 hb4 hb5 hgx hb35 a0 a1 a2 b0 b1 b2
        go_upto_region 8 with fail
        rw [HW5.out]
        refine (l1IsSmall_ex g0 gn ga gl gc W5).mono ?_
        rintro e w6 ⟨rfl, hw6⟩
        have hb6 : Below W5.heap.size W5 w6 := by rw [hw6]; exact below_alloc _ _
        have HSW : Hid (w.heap.size + 3 ≤ W5.heap.size) := Nat.le_trans HS5.out (Nat.le_of_lt (HGX.out W5 (Below.refl _ _)).lt)
        have HM6 := hidG (HM5.out.below (N := W5.heap.size) HSW.out hb6)
        have HB6 := hidG (HB5.out.trans (hb6.mono HB5.out.size))
        have HG6 := hidG (HG5.out.below hb6)
        have HZ6 := hidG (And.intro (HZ5.out.1.below hb6) (HZ5.out.2.below hb6))
        have HGO := hidG (isN_one HG5.out)
        have hx6 := HGX.out w6 hb6
        have g1' := hx6.cell 0
        have g2' := hx6.cell 1
        have g3' := hx6.cell 2
        simp only [List.getElem?_cons_zero, List.getElem?_cons_succ] at g1' g2' g3'
        have HS6 : Hid (w.heap.size + 3 ≤ w6.heap.size) := Nat.le_trans HSW.out hb6.size
        have HGX6 : Hid (∀ W, Below w6.heap.size w6 W → Bx W w4.heap.size [.int .i64 g0, .bool gn, .slice ga gl gc]) := fun W hW => HGX.out W ((show Below W5.heap.size W5 w6 from hb6).trans (hW.mono hb6.size))
        clear hw6 hb6 hx6 g1 g2 g3
        have a0 := HM6.out.a.cell 0
        have a1 := HM6.out.a.cell 1
        have a2 := HM6.out.a.cell 2
        have b0 := HM6.out.b.cell 0
        have b1 := HM6.out.b.cell 1
        have b2 := HM6.out.b.cell 2
        simp only [List.getElem?_cons_zero, List.getElem?_cons_succ] at a0 a1 a2 b0 b1 b2
        by_cases hg1 : gcdI (-x) (-y) = 1
        · have hone := HGO.out
          rw [decide_eq_true hg1, Bool.and_eq_true] at hone
          obtain ⟨y1, y2⟩ := hone
          rw [y1]
          have HP6 : Hid (NumZ B w6 (.agg #[.int .i64 P0, .bool Pn, .slice Pa Pl Pc]) (-x) 1000) := ⟨_, _, HZ6.out.1, HVV.out.1, len1⟩
          have HQ6 : Hid (NumZ B w6 (.agg #[.int .i64 Q0, .bool Qn, .slice Qa Ql Qc]) (-y) 1000) := ⟨_, _, HZ6.out.2, HVV.out.2, len2⟩
          have HLOW : Hid (IsLow x y (-x) (-y)) := HL.out _ _ (isLow_one HYP.out (by unfold gcdI at hg1; omega))
          clear y1
          have r0 := HM6.out.r.cell 0
          have r1 := HM6.out.r.cell 1
          have r2 := HM6.out.r.cell 2
          have r3 := HM6.out.r.cell 3
          have r4 := HM6.out.r.cell 4
          have r5 := HM6.out.r.cell 5
          simp only [List.getElem?_cons_zero, List.getElem?_cons_succ] at r0 r1 r2 r3 r4 r5
          have f0 := HM6.out.r.frozen 0
          have f1 := HM6.out.r.frozen 1
          have f2 := HM6.out.r.frozen 2
          have f3 := HM6.out.r.frozen 3
          have f4 := HM6.out.r.frozen 4
          have f5 := HM6.out.r.frozen 5
          go_wp2
          have hnR : NoInt w6 (w.heap.size + 1 + 1) := noInt_of HM6.out.r (by simp)
          have hk := keeps6 w6 (w.heap.size + 1 + 1) (.int .i64 P0) (.bool Pn) (.slice Pa Pl Pc) (.int .i64 Q0) (.bool Qn) (.slice Qa Ql Qc)
          have hP9 := HP6.out.keeps hnR hnR hk
          have hQ9 := HQ6.out.keeps hnR hnR hk
          have hB9 := set6 HB6.out (w.heap.size + 1 + 1) (by omega) (.int .i64 P0) (.bool Pn) (.slice Pa Pl Pc) (.int .i64 Q0) (.bool Qn) (.slice Qa Ql Qc)
          have hZ := HM6.out.r.put6 (.int .i64 P0) (.bool Pn) (.slice Pa Pl Pc) (.int .i64 Q0) (.bool Qn) (.slice Qa Ql Qc)
          have hWW : ((((((w6.setCell ⟨w.heap.size + 1 + 1, 0, none⟩ (.int .i64 P0)).setCell ⟨w.heap.size + 1 + 1, 1, none⟩ (.bool Pn)).setCell ⟨w.heap.size + 1 + 1, 2, none⟩ (.slice Pa Pl Pc)).setCell ⟨w.heap.size + 1 + 1, 3, none⟩ (.int .i64 Q0)).setCell ⟨w.heap.size + 1 + 1, 4, none⟩ (.bool Qn)).setCell ⟨w.heap.size + 1 + 1, 5, none⟩ (.slice Qa Ql Qc)) = W6 w6 (w.heap.size + 1 + 1) (.int .i64 P0) (.bool Pn) (.slice Pa Pl Pc) (.int .i64 Q0) (.bool Qn) (.slice Qa Ql Qc) := rfl
          rw [hWW]
          generalize W6 w6 (w.heap.size + 1 + 1) (.int .i64 P0) (.bool Pn) (.slice Pa Pl Pc) (.int .i64 Q0) (.bool Qn) (.slice Qa Ql Qc) = W9 at *
          have m0 := hZ.cell 0
          have m1 := hZ.cell 1
          have m2 := hZ.cell 2
          have m3 := hZ.cell 3
          have m4 := hZ.cell 4
          have m5 := hZ.cell 5
          simp only [List.getElem?_cons_zero, List.getElem?_cons_succ] at m0 m1 m2 m3 m4 m5
          refine bodyPost_ret (v := .agg #[.int .i64 P0, .bool Pn, .slice Pa Pl Pc, .int .i64 Q0, .bool Qn, .slice Qa Ql Qc]) ?_ rfl ⟨_, _, _, rfl, ⟨P0, Pn, Pa, Pl, Pc, Q0, Qn, Qa, Ql, Qc, rfl, hP9, hQ9⟩, HLOW.out, hB9⟩
          simp [results, Tryd.results16, go_sem, m0, m1, m2, m3, m4, m5]
        · have hone := HGO.out
          rw [decide_eq_false hg1] at hone
          obtain ⟨ng, tg, hzg, vg⟩ := HG6.out
          have HZG := hidG hzg
          have HVG := hidG vg
          have HLEN : Hid (tg.length ≤ 1000 ∧ tg ≠ []) := gcd_len2 ng n2 tg t2 (-x) (-y) HYP.out hzg.2.1 HZ6.out.2.1 vg HVV.out.2 len2
          clear hzg vg
          by_cases hz : gl = 0
          · have y1 : ((gl : Int) == 0) = true := by rw [beq_iff_eq]; omega
            have y2 : (g0 == 1) = false := by rw [y1] at hone; exact hone
            rw [y1]
            clear hone hz
            go_wp2_with fail
            refine (l1Div_any B _ _ n1 ng t1 tg _ (by have := HBW.out; have := HB6.out.size; omega) HZ6.out.1 HZG.out (by omega) (by have := HLEN.out.1; omega) HLEN.out.2).mono ?_
            rintro e w7 ⟨za, zr, qa1, ra1, rfl, ⟨hna, hnr⟩, hda, hb7⟩
            rw [HVV.out.1, HVG.out] at hda
            have HDA := hidG hda
            obtain ⟨d0, dn, da, dl, dc, rfl⟩ := hna.shape
            obtain ⟨e0, en, ea, el, ec, rfl⟩ := hnr.shape
            obtain ⟨W8, hW8⟩ : ∃ W8, (w7.alloc (.cells #[.int .i64 d0, .bool dn, .slice da dl dc] 28)).alloc (.cells #[.int .i64 e0, .bool en, .slice ea el ec] 28) = W8 := ⟨_, rfl⟩
            have HW8 := hidG hW8
            have hb8 : Below w7.heap.size w7 W8 := by rw [← hW8]; exact below_al (below_alloc _ _) _
            have hax : Bx W8 w7.heap.size [.int .i64 d0, .bool dn, .slice da dl dc] := by rw [← hW8]; exact (bx_new w7 _ _).alloc _
            have hb68 : Below w6.heap.size w6 W8 := hb7.trans (hb8.mono hb7.size)
            have HM8 := hidG (HM6.out.below (N := w6.heap.size) HS6.out hb68)
            have HB8 := hidG (HB6.out.trans (hb68.mono HB6.out.size))
            have HS8 : Hid (w.heap.size + 3 ≤ W8.heap.size) := Nat.le_trans HS6.out hb68.size
            have HZ8 := hidG (And.intro (HZ6.out.2.below hb68) (HZG.out.below hb68))
            have HNA : Hid (IsN B W8 (.agg #[.int .i64 d0, .bool dn, .slice da dl dc]) qa1) := (hna.below hb8).mono (by have := HBW.out; have := HB6.out.size; omega)
            have HAX : Hid (∀ W, Below W8.heap.size W8 W → Bx W w7.heap.size [.int .i64 d0, .bool dn, .slice da dl dc]) := fun W hW => hax.below hax.lt hW
            have hg8 := HGX6.out W8 hb68
            have g1'' := hg8.cell 0
            have g2'' := hg8.cell 1
            have g3'' := hg8.cell 2
            have b0' := HM8.out.b.cell 0
            have b1' := HM8.out.b.cell 1
            have b2' := HM8.out.b.cell 2
            simp only [List.getElem?_cons_zero, List.getElem?_cons_succ] at g1'' g2'' g3'' b0' b1' b2'
            clear hna hnr hda hb7 hW8 hb8 hax hb68 hg8 a0 a1 a2 b0 b1 b2 g1' g2' g3'
            go_upto_region 10 with fail
            rw [HW8.out]
            go_wp2_with fail
            refine (l1Div_any B _ _ n2 ng t2 tg W8 (by have := HBW.out; have := HB8.out.size; omega) HZ8.out.1 HZ8.out.2 (by omega) (by have := HLEN.out.1; omega) HLEN.out.2).mono ?_
            rintro e w9 ⟨zb, zs, qb1, rb1, rfl, ⟨hnb, hns⟩, hdb, hb9⟩
            rw [HVV.out.2, HVG.out] at hdb
            have HLO := hidG (low_of_div (-x) (-y) (gcdI (-x) (-y)) qa1 ra1 qb1 rb1 (by have := HYP.out; omega) (by rw [if_neg (by have := HYP.out; omega)]) HDA.out hdb)
            obtain ⟨i0, iN, ia, il, ic, rfl⟩ := hnb.shape
            obtain ⟨j0, jn, ja, jl, jc, rfl⟩ := hns.shape
            obtain ⟨W10, hW10⟩ : ∃ W10, (w9.alloc (.cells #[.int .i64 i0, .bool iN, .slice ia il ic] 28)).alloc (.cells #[.int .i64 j0, .bool jn, .slice ja jl jc] 28) = W10 := ⟨_, rfl⟩
            have HW10 := hidG hW10
            have hb10 : Below w9.heap.size w9 W10 := by rw [← hW10]; exact below_al (below_alloc _ _) _
            have hbx : Bx W10 w9.heap.size [.int .i64 i0, .bool iN, .slice ia il ic] := by rw [← hW10]; exact (bx_new w9 _ _).alloc _
            have hb810 : Below W8.heap.size W8 W10 := hb9.trans (hb10.mono hb9.size)
            have HM10 := hidG (HM8.out.below (N := W8.heap.size) HS8.out hb810)
            have HB10 := hidG (HB8.out.trans (hb810.mono HB8.out.size))
            have HP10 : Hid (NumZ B W10 (.agg #[.int .i64 d0, .bool dn, .slice da dl dc]) qa1 1000) := numZ_of (HNA.out.below hb810) t1 HZ6.out.1.1 (low_len1 HLO.out HVV.out.1) len1
            have HQ10 : Hid (NumZ B W10 (.agg #[.int .i64 i0, .bool iN, .slice ia il ic]) qb1 1000) := numZ_of ((hnb.below hb10).mono (by have := HBW.out; have := HB8.out.size; omega)) t2 HZ6.out.2.1 (low_len2 HLO.out HVV.out.2) len2
            have HLOW := hidG (HL.out _ _ HLO.out)
            have hax := HAX.out W10 hb810
            have u0 := hax.cell 0
            have u1 := hax.cell 1
            have u2 := hax.cell 2
            have v0 := hbx.cell 0
            have v1 := hbx.cell 1
            have v2 := hbx.cell 2
            simp only [List.getElem?_cons_zero, List.getElem?_cons_succ] at u0 u1 u2 v0 v1 v2
            clear hnb hns hdb hb9 hW10 hb10 hbx hb810 hax b0' b1' b2' g1'' g2'' g3''
            go_upto_region 11 with fail
            rw [HW10.out]
            have r0 := HM10.out.r.cell 0
            have r1 := HM10.out.r.cell 1
            have r2 := HM10.out.r.cell 2
            have r3 := HM10.out.r.cell 3
            have r4 := HM10.out.r.cell 4
            have r5 := HM10.out.r.cell 5
            simp only [List.getElem?_cons_zero, List.getElem?_cons_succ] at r0 r1 r2 r3 r4 r5
            have f0 := HM10.out.r.frozen 0
            have f1 := HM10.out.r.frozen 1
            have f2 := HM10.out.r.frozen 2
            have f3 := HM10.out.r.frozen 3
            have f4 := HM10.out.r.frozen 4
            have f5 := HM10.out.r.frozen 5
            go_wp2
            have hnR : NoInt W10 (w.heap.size + 1 + 1) := noInt_of HM10.out.r (by simp)
            have hk := keeps6 W10 (w.heap.size + 1 + 1) (.int .i64 d0) (.bool dn) (.slice da dl dc) (.int .i64 i0) (.bool iN) (.slice ia il ic)
            have hP9 := HP10.out.keeps hnR hnR hk
            have hQ9 := HQ10.out.keeps hnR hnR hk
            have hB9 := set6 HB10.out (w.heap.size + 1 + 1) (by omega) (.int .i64 d0) (.bool dn) (.slice da dl dc) (.int .i64 i0) (.bool iN) (.slice ia il ic)
            have hZ := HM10.out.r.put6 (.int .i64 d0) (.bool dn) (.slice da dl dc) (.int .i64 i0) (.bool iN) (.slice ia il ic)
            have hWW : ((((((W10.setCell ⟨w.heap.size + 1 + 1, 0, none⟩ (.int .i64 d0)).setCell ⟨w.heap.size + 1 + 1, 1, none⟩ (.bool dn)).setCell ⟨w.heap.size + 1 + 1, 2, none⟩ (.slice da dl dc)).setCell ⟨w.heap.size + 1 + 1, 3, none⟩ (.int .i64 i0)).setCell ⟨w.heap.size + 1 + 1, 4, none⟩ (.bool iN)).setCell ⟨w.heap.size + 1 + 1, 5, none⟩ (.slice ia il ic)) = W6 W10 (w.heap.size + 1 + 1) (.int .i64 d0) (.bool dn) (.slice da dl dc) (.int .i64 i0) (.bool iN) (.slice ia il ic) := rfl
            rw [hWW]
            generalize W6 W10 (w.heap.size + 1 + 1) (.int .i64 d0) (.bool dn) (.slice da dl dc) (.int .i64 i0) (.bool iN) (.slice ia il ic) = W9 at *
            have m0 := hZ.cell 0
            have m1 := hZ.cell 1
            have m2 := hZ.cell 2
            have m3 := hZ.cell 3
            have m4 := hZ.cell 4
            have m5 := hZ.cell 5
            simp only [List.getElem?_cons_zero, List.getElem?_cons_succ] at m0 m1 m2 m3 m4 m5
            refine bodyPost_ret (v := .agg #[.int .i64 d0, .bool dn, .slice da dl dc, .int .i64 i0, .bool iN, .slice ia il ic]) ?_ rfl ⟨_, _, _, rfl, ⟨d0, dn, da, dl, dc, i0, iN, ia, il, ic, rfl, hP9, hQ9⟩, HLOW.out, hB9⟩
            simp [results, Tryd.results16, go_sem, m0, m1, m2, m3, m4, m5]
          · have y1 : ((gl : Int) == 0) = false := by rw [beq_eq_false_iff_ne]; omega
            rw [y1]
            clear hone hz
            go_wp2_with fail
            refine (l1Div_any B _ _ n1 ng t1 tg _ (by have := HBW.out; have := HB6.out.size; omega) HZ6.out.1 HZG.out (by omega) (by have := HLEN.out.1; omega) HLEN.out.2).mono ?_
            rintro e w7 ⟨za, zr, qa1, ra1, rfl, ⟨hna, hnr⟩, hda, hb7⟩
            rw [HVV.out.1, HVG.out] at hda
            have HDA := hidG hda
            obtain ⟨d0, dn, da, dl, dc, rfl⟩ := hna.shape
            obtain ⟨e0, en, ea, el, ec, rfl⟩ := hnr.shape
            obtain ⟨W8, hW8⟩ : ∃ W8, (w7.alloc (.cells #[.int .i64 d0, .bool dn, .slice da dl dc] 28)).alloc (.cells #[.int .i64 e0, .bool en, .slice ea el ec] 28) = W8 := ⟨_, rfl⟩
            have HW8 := hidG hW8
            have hb8 : Below w7.heap.size w7 W8 := by rw [← hW8]; exact below_al (below_alloc _ _) _
            have hax : Bx W8 w7.heap.size [.int .i64 d0, .bool dn, .slice da dl dc] := by rw [← hW8]; exact (bx_new w7 _ _).alloc _
            have hb68 : Below w6.heap.size w6 W8 := hb7.trans (hb8.mono hb7.size)
            have HM8 := hidG (HM6.out.below (N := w6.heap.size) HS6.out hb68)
            have HB8 := hidG (HB6.out.trans (hb68.mono HB6.out.size))
            have HS8 : Hid (w.heap.size + 3 ≤ W8.heap.size) := Nat.le_trans HS6.out hb68.size
            have HZ8 := hidG (And.intro (HZ6.out.2.below hb68) (HZG.out.below hb68))
            have HNA : Hid (IsN B W8 (.agg #[.int .i64 d0, .bool dn, .slice da dl dc]) qa1) := (hna.below hb8).mono (by have := HBW.out; have := HB6.out.size; omega)
            have HAX : Hid (∀ W, Below W8.heap.size W8 W → Bx W w7.heap.size [.int .i64 d0, .bool dn, .slice da dl dc]) := fun W hW => hax.below hax.lt hW
            have hg8 := HGX6.out W8 hb68
            have g1'' := hg8.cell 0
            have g2'' := hg8.cell 1
            have g3'' := hg8.cell 2
            have b0' := HM8.out.b.cell 0
            have b1' := HM8.out.b.cell 1
            have b2' := HM8.out.b.cell 2
            simp only [List.getElem?_cons_zero, List.getElem?_cons_succ] at g1'' g2'' g3'' b0' b1' b2'
            clear hna hnr hda hb7 hW8 hb8 hax hb68 hg8 a0 a1 a2 b0 b1 b2 g1' g2' g3'
            go_upto_region 10 with fail
            rw [HW8.out]
            go_wp2_with fail
            refine (l1Div_any B _ _ n2 ng t2 tg W8 (by have := HBW.out; have := HB8.out.size; omega) HZ8.out.1 HZ8.out.2 (by omega) (by have := HLEN.out.1; omega) HLEN.out.2).mono ?_
            rintro e w9 ⟨zb, zs, qb1, rb1, rfl, ⟨hnb, hns⟩, hdb, hb9⟩
            rw [HVV.out.2, HVG.out] at hdb
            have HLO := hidG (low_of_div (-x) (-y) (gcdI (-x) (-y)) qa1 ra1 qb1 rb1 (by have := HYP.out; omega) (by rw [if_neg (by have := HYP.out; omega)]) HDA.out hdb)
            obtain ⟨i0, iN, ia, il, ic, rfl⟩ := hnb.shape
            obtain ⟨j0, jn, ja, jl, jc, rfl⟩ := hns.shape
            obtain ⟨W10, hW10⟩ : ∃ W10, (w9.alloc (.cells #[.int .i64 i0, .bool iN, .slice ia il ic] 28)).alloc (.cells #[.int .i64 j0, .bool jn, .slice ja jl jc] 28) = W10 := ⟨_, rfl⟩
            have HW10 := hidG hW10
            have hb10 : Below w9.heap.size w9 W10 := by rw [← hW10]; exact below_al (below_alloc _ _) _
            have hbx : Bx W10 w9.heap.size [.int .i64 i0, .bool iN, .slice ia il ic] := by rw [← hW10]; exact (bx_new w9 _ _).alloc _
            have hb810 : Below W8.heap.size W8 W10 := hb9.trans (hb10.mono hb9.size)
            have HM10 := hidG (HM8.out.below (N := W8.heap.size) HS8.out hb810)
            have HB10 := hidG (HB8.out.trans (hb810.mono HB8.out.size))
            have HP10 : Hid (NumZ B W10 (.agg #[.int .i64 d0, .bool dn, .slice da dl dc]) qa1 1000) := numZ_of (HNA.out.below hb810) t1 HZ6.out.1.1 (low_len1 HLO.out HVV.out.1) len1
            have HQ10 : Hid (NumZ B W10 (.agg #[.int .i64 i0, .bool iN, .slice ia il ic]) qb1 1000) := numZ_of ((hnb.below hb10).mono (by have := HBW.out; have := HB8.out.size; omega)) t2 HZ6.out.2.1 (low_len2 HLO.out HVV.out.2) len2
            have HLOW := hidG (HL.out _ _ HLO.out)
            have hax := HAX.out W10 hb810
            have u0 := hax.cell 0
            have u1 := hax.cell 1
            have u2 := hax.cell 2
            have v0 := hbx.cell 0
            have v1 := hbx.cell 1
            have v2 := hbx.cell 2
            simp only [List.getElem?_cons_zero, List.getElem?_cons_succ] at u0 u1 u2 v0 v1 v2
            clear hnb hns hdb hb9 hW10 hb10 hbx hb810 hax b0' b1' b2' g1'' g2'' g3''
            go_upto_region 11 with fail
            rw [HW10.out]
            have r0 := HM10.out.r.cell 0
            have r1 := HM10.out.r.cell 1
            have r2 := HM10.out.r.cell 2
            have r3 := HM10.out.r.cell 3
            have r4 := HM10.out.r.cell 4
            have r5 := HM10.out.r.cell 5
            simp only [List.getElem?_cons_zero, List.getElem?_cons_succ] at r0 r1 r2 r3 r4 r5
            have f0 := HM10.out.r.frozen 0
            have f1 := HM10.out.r.frozen 1
            have f2 := HM10.out.r.frozen 2
            have f3 := HM10.out.r.frozen 3
            have f4 := HM10.out.r.frozen 4
            have f5 := HM10.out.r.frozen 5
            go_wp2
            have hnR : NoInt W10 (w.heap.size + 1 + 1) := noInt_of HM10.out.r (by simp)
            have hk := keeps6 W10 (w.heap.size + 1 + 1) (.int .i64 d0) (.bool dn) (.slice da dl dc) (.int .i64 i0) (.bool iN) (.slice ia il ic)
            have hP9 := HP10.out.keeps hnR hnR hk
            have hQ9 := HQ10.out.keeps hnR hnR hk
            have hB9 := set6 HB10.out (w.heap.size + 1 + 1) (by omega) (.int .i64 d0) (.bool dn) (.slice da dl dc) (.int .i64 i0) (.bool iN) (.slice ia il ic)
            have hZ := HM10.out.r.put6 (.int .i64 d0) (.bool dn) (.slice da dl dc) (.int .i64 i0) (.bool iN) (.slice ia il ic)
            have hWW : ((((((W10.setCell ⟨w.heap.size + 1 + 1, 0, none⟩ (.int .i64 d0)).setCell ⟨w.heap.size + 1 + 1, 1, none⟩ (.bool dn)).setCell ⟨w.heap.size + 1 + 1, 2, none⟩ (.slice da dl dc)).setCell ⟨w.heap.size + 1 + 1, 3, none⟩ (.int .i64 i0)).setCell ⟨w.heap.size + 1 + 1, 4, none⟩ (.bool iN)).setCell ⟨w.heap.size + 1 + 1, 5, none⟩ (.slice ia il ic)) = W6 W10 (w.heap.size + 1 + 1) (.int .i64 d0) (.bool dn) (.slice da dl dc) (.int .i64 i0) (.bool iN) (.slice ia il ic) := rfl
            rw [hWW]
            generalize W6 W10 (w.heap.size + 1 + 1) (.int .i64 d0) (.bool dn) (.slice da dl dc) (.int .i64 i0) (.bool iN) (.slice ia il ic) = W9 at *
            have m0 := hZ.cell 0
            have m1 := hZ.cell 1
            have m2 := hZ.cell 2
            have m3 := hZ.cell 3
            have m4 := hZ.cell 4
            have m5 := hZ.cell 5
            simp only [List.getElem?_cons_zero, List.getElem?_cons_succ] at m0 m1 m2 m3 m4 m5
            refine bodyPost_ret (v := .agg #[.int .i64 d0, .bool dn, .slice da dl dc, .int .i64 i0, .bool iN, .slice ia il ic]) ?_ rfl ⟨_, _, _, rfl, ⟨d0, dn, da, dl, dc, i0, iN, ia, il, ic, rfl, hP9, hQ9⟩, HLOW.out, hB9⟩
            simp [results, Tryd.results16, go_sem, m0, m1, m2, m3, m4, m5]
  · have z : decide (ordI y 0 < 0) = false := by rw [ordI_lt]; exact decide_eq_false hneg
    have HYP : Hid (0 < y) := by show 0 < y; omega
    have HL : Hid (∀ a b, IsLow x y a b → IsLow x y a b) := fun _ _ h => h
    go_wp2_with fail
    refine (l1IsSmall_ex q0 qn qa ql qc w1).mono ?_
    rintro e w3 ⟨rfl, hw3⟩
    have hb3 : Below w1.heap.size w1 w3 := by rw [hw3]; exact below_alloc _ _
    have HM3 := hidG (HM1.out.below (N := w1.heap.size) HS1.out hb3)
    have HB3 := hidG (HB1.out.trans (hb3.mono HB1.out.size))
    have HP3 := hidG (HP1.out.below hb3)
    have HQ3 := hidG (HQ1.out.below hb3)
    have HS3 : Hid (w.heap.size + 3 ≤ w3.heap.size) := Nat.le_trans HS1.out hb3.size
    have HONE := hidG (isN_one HQ1.out.isN)
    clear hw3 hb3 a0 a1 a2 b0 b1 b2
    have a0 := HM3.out.a.cell 0
    have a1 := HM3.out.a.cell 1
    have a2 := HM3.out.a.cell 2
    have b0 := HM3.out.b.cell 0
    have b1 := HM3.out.b.cell 1
    have b2 := HM3.out.b.cell 2
    simp only [List.getElem?_cons_zero, List.getElem?_cons_succ] at a0 a1 a2 b0 b1 b2
    by_cases h1 : y = 1
    · have hone := HONE.out
      rw [decide_eq_true h1, Bool.and_eq_true] at hone
      obtain ⟨z1, z2⟩ := hone
      rw [z1]
      have HLOW : Hid (IsLow x y (x) (y)) := HL.out _ _ (isLow_one HYP.out (by rw [h1]; simp))
      have r0 := HM3.out.r.cell 0
      have r1 := HM3.out.r.cell 1
      have r2 := HM3.out.r.cell 2
      have r3 := HM3.out.r.cell 3
      have r4 := HM3.out.r.cell 4
      have r5 := HM3.out.r.cell 5
      simp only [List.getElem?_cons_zero, List.getElem?_cons_succ] at r0 r1 r2 r3 r4 r5
      have f0 := HM3.out.r.frozen 0
      have f1 := HM3.out.r.frozen 1
      have f2 := HM3.out.r.frozen 2
      have f3 := HM3.out.r.frozen 3
      have f4 := HM3.out.r.frozen 4
      have f5 := HM3.out.r.frozen 5
      go_wp2
      have hnR : NoInt w3 (w.heap.size + 1 + 1) := noInt_of HM3.out.r (by simp)
      have hk := keeps6 w3 (w.heap.size + 1 + 1) (.int .i64 p0) (.bool pn) (.slice pa pl pc) (.int .i64 q0) (.bool qn) (.slice qa ql qc)
      have hP9 := HP3.out.keeps hnR hnR hk
      have hQ9 := HQ3.out.keeps hnR hnR hk
      have hB9 := set6 HB3.out (w.heap.size + 1 + 1) (by omega) (.int .i64 p0) (.bool pn) (.slice pa pl pc) (.int .i64 q0) (.bool qn) (.slice qa ql qc)
      have hZ := HM3.out.r.put6 (.int .i64 p0) (.bool pn) (.slice pa pl pc) (.int .i64 q0) (.bool qn) (.slice qa ql qc)
      have hWW : ((((((w3.setCell ⟨w.heap.size + 1 + 1, 0, none⟩ (.int .i64 p0)).setCell ⟨w.heap.size + 1 + 1, 1, none⟩ (.bool pn)).setCell ⟨w.heap.size + 1 + 1, 2, none⟩ (.slice pa pl pc)).setCell ⟨w.heap.size + 1 + 1, 3, none⟩ (.int .i64 q0)).setCell ⟨w.heap.size + 1 + 1, 4, none⟩ (.bool qn)).setCell ⟨w.heap.size + 1 + 1, 5, none⟩ (.slice qa ql qc)) = W6 w3 (w.heap.size + 1 + 1) (.int .i64 p0) (.bool pn) (.slice pa pl pc) (.int .i64 q0) (.bool qn) (.slice qa ql qc) := rfl
      rw [hWW]
      generalize W6 w3 (w.heap.size + 1 + 1) (.int .i64 p0) (.bool pn) (.slice pa pl pc) (.int .i64 q0) (.bool qn) (.slice qa ql qc) = W9 at *
      have m0 := hZ.cell 0
      have m1 := hZ.cell 1
      have m2 := hZ.cell 2
      have m3 := hZ.cell 3
      have m4 := hZ.cell 4
      have m5 := hZ.cell 5
      simp only [List.getElem?_cons_zero, List.getElem?_cons_succ] at m0 m1 m2 m3 m4 m5
      refine bodyPost_ret (v := .agg #[.int .i64 p0, .bool pn, .slice pa pl pc, .int .i64 q0, .bool qn, .slice qa ql qc]) ?_ rfl ⟨_, _, _, rfl, ⟨p0, pn, pa, pl, pc, q0, qn, qa, ql, qc, rfl, hP9, hQ9⟩, HLOW.out, hB9⟩
      simp [results, Tryd.results16, go_sem, m0, m1, m2, m3, m4, m5]
    · have hone := HONE.out
      rw [decide_eq_false h1] at hone
      by_cases hz : ql = 0
      · have z1 : ((ql : Int) == 0) = true := by rw [beq_iff_eq]; omega
        have z2 : (q0 == 1) = false := by rw [z1] at hone; exact hone
        rw [z1]
        clear hone hz
        go_wp2_with fail
        obtain ⟨n1, t1, hz1, v1, len1⟩ := HP3.out
        obtain ⟨n2, t2, hz2, v2, len2⟩ := HQ3.out
        have HZZ := hidG (And.intro hz1 hz2)
        have HVV := hidG (And.intro v1 v2)
        clear hz1 hz2 v1 v2
        refine (l1Gcd_any B _ _ n1 n2 t1 t2 1000 _ (by have := HBW.out; have := HB3.out.size; omega) HZZ.out.1 HZZ.out.2 len1 len2 (by omega)).mono ?_
        rintro e w4 ⟨zg, rfl, hg, hb4⟩
        rw [HVV.out.1, HVV.out.2] at hg
        obtain ⟨g0, gn, ga, gl, gc, rfl⟩ := hg.shape
        obtain ⟨W5, hW5⟩ : ∃ W5, w4.alloc (.cells #[.int .i64 g0, .bool gn, .slice ga gl gc] 28) = W5 := ⟨_, rfl⟩
        have HW5 := hidG hW5
        have hb5 : Below w4.heap.size w4 W5 := by rw [← hW5]; exact below_alloc _ _
        have hgx : Bx W5 w4.heap.size [.int .i64 g0, .bool gn, .slice ga gl gc] := by rw [← hW5]; exact bx_new w4 _ _
        have hb35 : Below w3.heap.size w3 W5 := hb4.trans (hb5.mono hb4.size)
        have HM5 := hidG (HM3.out.below (N := w3.heap.size) HS3.out hb35)
        have HB5 := hidG (HB3.out.trans (hb35.mono HB3.out.size))
        have HS5 : Hid (w.heap.size + 3 ≤ w4.heap.size) := Nat.le_trans HS3.out hb4.size
        have HG5 := hidG (hg.below hb5)
        have HZ5 := hidG (And.intro (HZZ.out.1.below hb35) (HZZ.out.2.below hb35))
        have HGX : Hid (∀ W, Below W5.heap.size W5 W → Bx W w4.heap.size [.int .i64 g0, .bool gn, .slice ga gl gc]) := fun W hW => hgx.below hgx.lt hW
        have g1 := hgx.cell 0
        have g2 := hgx.cell 1
        have g3 := hgx.cell 2
        simp only [List.getElem?_cons_zero, List.getElem?_cons_succ] at g1 g2 g3
        clear hg hW5 hb4 hb5 hgx hb35 a0 a1 a2 b0 b1 b2
        go_upto_region 8 with fail
        rw [HW5.out]
        refine (l1IsSmall_ex g0 gn ga gl gc W5).mono ?_
        rintro e w6 ⟨rfl, hw6⟩
        have hb6 : Below W5.heap.size W5 w6 := by rw [hw6]; exact below_alloc _ _
        have HSW : Hid (w.heap.size + 3 ≤ W5.heap.size) := Nat.le_trans HS5.out (Nat.le_of_lt (HGX.out W5 (Below.refl _ _)).lt)
        have HM6 := hidG (HM5.out.below (N := W5.heap.size) HSW.out hb6)
        have HB6 := hidG (HB5.out.trans (hb6.mono HB5.out.size))
        have HG6 := hidG (HG5.out.below hb6)
        have HZ6 := hidG (And.intro (HZ5.out.1.below hb6) (HZ5.out.2.below hb6))
        have HGO := hidG (isN_one HG5.out)
        have hx6 := HGX.out w6 hb6
        have g1' := hx6.cell 0
        have g2' := hx6.cell 1
        have g3' := hx6.cell 2
        simp only [List.getElem?_cons_zero, List.getElem?_cons_succ] at g1' g2' g3'
        have HS6 : Hid (w.heap.size + 3 ≤ w6.heap.size) := Nat.le_trans HSW.out hb6.size
        have HGX6 : Hid (∀ W, Below w6.heap.size w6 W → Bx W w4.heap.size [.int .i64 g0, .bool gn, .slice ga gl gc]) := fun W hW => HGX.out W ((show Below W5.heap.size W5 w6 from hb6).trans (hW.mono hb6.size))
        clear hw6 hb6 hx6 g1 g2 g3
        have a0 := HM6.out.a.cell 0
        have a1 := HM6.out.a.cell 1
        have a2 := HM6.out.a.cell 2
        have b0 := HM6.out.b.cell 0
        have b1 := HM6.out.b.cell 1
        have b2 := HM6.out.b.cell 2
        simp only [List.getElem?_cons_zero, List.getElem?_cons_succ] at a0 a1 a2 b0 b1 b2
        by_cases hg1 : gcdI (x) (y) = 1
        · have hone := HGO.out
          rw [decide_eq_true hg1, Bool.and_eq_true] at hone
          obtain ⟨y1, y2⟩ := hone
          rw [y1]
          have HP6 : Hid (NumZ B w6 (.agg #[.int .i64 p0, .bool pn, .slice pa pl pc]) (x) 1000) := ⟨_, _, HZ6.out.1, HVV.out.1, len1⟩
          have HQ6 : Hid (NumZ B w6 (.agg #[.int .i64 q0, .bool qn, .slice qa ql qc]) (y) 1000) := ⟨_, _, HZ6.out.2, HVV.out.2, len2⟩
          have HLOW : Hid (IsLow x y (x) (y)) := HL.out _ _ (isLow_one HYP.out (by unfold gcdI at hg1; omega))
          clear y1
          have r0 := HM6.out.r.cell 0
          have r1 := HM6.out.r.cell 1
          have r2 := HM6.out.r.cell 2
          have r3 := HM6.out.r.cell 3
          have r4 := HM6.out.r.cell 4
          have r5 := HM6.out.r.cell 5
          simp only [List.getElem?_cons_zero, List.getElem?_cons_succ] at r0 r1 r2 r3 r4 r5
          have f0 := HM6.out.r.frozen 0
          have f1 := HM6.out.r.frozen 1
          have f2 := HM6.out.r.frozen 2
          have f3 := HM6.out.r.frozen 3
          have f4 := HM6.out.r.frozen 4
          have f5 := HM6.out.r.frozen 5
          go_wp2
          have hnR : NoInt w6 (w.heap.size + 1 + 1) := noInt_of HM6.out.r (by simp)
          have hk := keeps6 w6 (w.heap.size + 1 + 1) (.int .i64 p0) (.bool pn) (.slice pa pl pc) (.int .i64 q0) (.bool qn) (.slice qa ql qc)
          have hP9 := HP6.out.keeps hnR hnR hk
          have hQ9 := HQ6.out.keeps hnR hnR hk
          have hB9 := set6 HB6.out (w.heap.size + 1 + 1) (by omega) (.int .i64 p0) (.bool pn) (.slice pa pl pc) (.int .i64 q0) (.bool qn) (.slice qa ql qc)
          have hZ := HM6.out.r.put6 (.int .i64 p0) (.bool pn) (.slice pa pl pc) (.int .i64 q0) (.bool qn) (.slice qa ql qc)
          have hWW : ((((((w6.setCell ⟨w.heap.size + 1 + 1, 0, none⟩ (.int .i64 p0)).setCell ⟨w.heap.size + 1 + 1, 1, none⟩ (.bool pn)).setCell ⟨w.heap.size + 1 + 1, 2, none⟩ (.slice pa pl pc)).setCell ⟨w.heap.size + 1 + 1, 3, none⟩ (.int .i64 q0)).setCell ⟨w.heap.size + 1 + 1, 4, none⟩ (.bool qn)).setCell ⟨w.heap.size + 1 + 1, 5, none⟩ (.slice qa ql qc)) = W6 w6 (w.heap.size + 1 + 1) (.int .i64 p0) (.bool pn) (.slice pa pl pc) (.int .i64 q0) (.bool qn) (.slice qa ql qc) := rfl
          rw [hWW]
          generalize W6 w6 (w.heap.size + 1 + 1) (.int .i64 p0) (.bool pn) (.slice pa pl pc) (.int .i64 q0) (.bool qn) (.slice qa ql qc) = W9 at *
          have m0 := hZ.cell 0
          have m1 := hZ.cell 1
          have m2 := hZ.cell 2
          have m3 := hZ.cell 3
          have m4 := hZ.cell 4
          have m5 := hZ.cell 5
          simp only [List.getElem?_cons_zero, List.getElem?_cons_succ] at m0 m1 m2 m3 m4 m5
          refine bodyPost_ret (v := .agg #[.int .i64 p0, .bool pn, .slice pa pl pc, .int .i64 q0, .bool qn, .slice qa ql qc]) ?_ rfl ⟨_, _, _, rfl, ⟨p0, pn, pa, pl, pc, q0, qn, qa, ql, qc, rfl, hP9, hQ9⟩, HLOW.out, hB9⟩
          simp [results, Tryd.results16, go_sem, m0, m1, m2, m3, m4, m5]
        · have hone := HGO.out
          rw [decide_eq_false hg1] at hone
          obtain ⟨ng, tg, hzg, vg⟩ := HG6.out
          have HZG := hidG hzg
          have HVG := hidG vg
          have HLEN : Hid (tg.length ≤ 1000 ∧ tg ≠ []) := gcd_len2 ng n2 tg t2 (x) (y) HYP.out hzg.2.1 HZ6.out.2.1 vg HVV.out.2 len2
          clear hzg vg
          by_cases hz : gl = 0
          · have y1 : ((gl : Int) == 0) = true := by rw [beq_iff_eq]; omega
            have y2 : (g0 == 1) = false := by rw [y1] at hone; exact hone
            rw [y1]
            clear hone hz
            go_wp2_with fail
            refine (l1Div_any B _ _ n1 ng t1 tg _ (by have := HBW.out; have := HB6.out.size; omega) HZ6.out.1 HZG.out (by omega) (by have := HLEN.out.1; omega) HLEN.out.2).mono ?_
            rintro e w7 ⟨za, zr, qa1, ra1, rfl, ⟨hna, hnr⟩, hda, hb7⟩
            rw [HVV.out.1, HVG.out] at hda
            have HDA := hidG hda
            obtain ⟨d0, dn, da, dl, dc, rfl⟩ := hna.shape
            obtain ⟨e0, en, ea, el, ec, rfl⟩ := hnr.shape
            obtain ⟨W8, hW8⟩ : ∃ W8, (w7.alloc (.cells #[.int .i64 d0, .bool dn, .slice da dl dc] 28)).alloc (.cells #[.int .i64 e0, .bool en, .slice ea el ec] 28) = W8 := ⟨_, rfl⟩
            have HW8 := hidG hW8
            have hb8 : Below w7.heap.size w7 W8 := by rw [← hW8]; exact below_al (below_alloc _ _) _
            have hax : Bx W8 w7.heap.size [.int .i64 d0, .bool dn, .slice da dl dc] := by rw [← hW8]; exact (bx_new w7 _ _).alloc _
            have hb68 : Below w6.heap.size w6 W8 := hb7.trans (hb8.mono hb7.size)
            have HM8 := hidG (HM6.out.below (N := w6.heap.size) HS6.out hb68)
            have HB8 := hidG (HB6.out.trans (hb68.mono HB6.out.size))
            have HS8 : Hid (w.heap.size + 3 ≤ W8.heap.size) := Nat.le_trans HS6.out hb68.size
            have HZ8 := hidG (And.intro (HZ6.out.2.below hb68) (HZG.out.below hb68))
            have HNA : Hid (IsN B W8 (.agg #[.int .i64 d0, .bool dn, .slice da dl dc]) qa1) := (hna.below hb8).mono (by have := HBW.out; have := HB6.out.size; omega)
            have HAX : Hid (∀ W, Below W8.heap.size W8 W → Bx W w7.heap.size [.int .i64 d0, .bool dn, .slice da dl dc]) := fun W hW => hax.below hax.lt hW
            have hg8 := HGX6.out W8 hb68
            have g1'' := hg8.cell 0
            have g2'' := hg8.cell 1
            have g3'' := hg8.cell 2
            have b0' := HM8.out.b.cell 0
            have b1' := HM8.out.b.cell 1
            have b2' := HM8.out.b.cell 2
            simp only [List.getElem?_cons_zero, List.getElem?_cons_succ] at g1'' g2'' g3'' b0' b1' b2'
            clear hna hnr hda hb7 hW8 hb8 hax hb68 hg8 a0 a1 a2 b0 b1 b2 g1' g2' g3'
            go_upto_region 10 with fail
            rw [HW8.out]
            go_wp2_with fail
            refine (l1Div_any B _ _ n2 ng t2 tg W8 (by have := HBW.out; have := HB8.out.size; omega) HZ8.out.1 HZ8.out.2 (by omega) (by have := HLEN.out.1; omega) HLEN.out.2).mono ?_
            rintro e w9 ⟨zb, zs, qb1, rb1, rfl, ⟨hnb, hns⟩, hdb, hb9⟩
            rw [HVV.out.2, HVG.out] at hdb
            have HLO := hidG (low_of_div (x) (y) (gcdI (x) (y)) qa1 ra1 qb1 rb1 (by have := HYP.out; omega) (by rw [if_neg (by have := HYP.out; omega)]) HDA.out hdb)
            obtain ⟨i0, iN, ia, il, ic, rfl⟩ := hnb.shape
            obtain ⟨j0, jn, ja, jl, jc, rfl⟩ := hns.shape
            obtain ⟨W10, hW10⟩ : ∃ W10, (w9.alloc (.cells #[.int .i64 i0, .bool iN, .slice ia il ic] 28)).alloc (.cells #[.int .i64 j0, .bool jn, .slice ja jl jc] 28) = W10 := ⟨_, rfl⟩
            have HW10 := hidG hW10
            have hb10 : Below w9.heap.size w9 W10 := by rw [← hW10]; exact below_al (below_alloc _ _) _
            have hbx : Bx W10 w9.heap.size [.int .i64 i0, .bool iN, .slice ia il ic] := by rw [← hW10]; exact (bx_new w9 _ _).alloc _
            have hb810 : Below W8.heap.size W8 W10 := hb9.trans (hb10.mono hb9.size)
            have HM10 := hidG (HM8.out.below (N := W8.heap.size) HS8.out hb810)
            have HB10 := hidG (HB8.out.trans (hb810.mono HB8.out.size))
            have HP10 : Hid (NumZ B W10 (.agg #[.int .i64 d0, .bool dn, .slice da dl dc]) qa1 1000) := numZ_of (HNA.out.below hb810) t1 HZ6.out.1.1 (low_len1 HLO.out HVV.out.1) len1
            have HQ10 : Hid (NumZ B W10 (.agg #[.int .i64 i0, .bool iN, .slice ia il ic]) qb1 1000) := numZ_of ((hnb.below hb10).mono (by have := HBW.out; have := HB8.out.size; omega)) t2 HZ6.out.2.1 (low_len2 HLO.out HVV.out.2) len2
            have HLOW := hidG (HL.out _ _ HLO.out)
            have hax := HAX.out W10 hb810
            have u0 := hax.cell 0
            have u1 := hax.cell 1
            have u2 := hax.cell 2
            have v0 := hbx.cell 0
            have v1 := hbx.cell 1
            have v2 := hbx.cell 2
            simp only [List.getElem?_cons_zero, List.getElem?_cons_succ] at u0 u1 u2 v0 v1 v2
            clear hnb hns hdb hb9 hW10 hb10 hbx hb810 hax b0' b1' b2' g1'' g2'' g3''
            go_upto_region 11 with fail
            rw [HW10.out]
            have r0 := HM10.out.r.cell 0
            have r1 := HM10.out.r.cell 1
            have r2 := HM10.out.r.cell 2
            have r3 := HM10.out.r.cell 3
            have r4 := HM10.out.r.cell 4
            have r5 := HM10.out.r.cell 5
            simp only [List.getElem?_cons_zero, List.getElem?_cons_succ] at r0 r1 r2 r3 r4 r5
            have f0 := HM10.out.r.frozen 0
            have f1 := HM10.out.r.frozen 1
            have f2 := HM10.out.r.frozen 2
            have f3 := HM10.out.r.frozen 3
            have f4 := HM10.out.r.frozen 4
            have f5 := HM10.out.r.frozen 5
            go_wp2
            have hnR : NoInt W10 (w.heap.size + 1 + 1) := noInt_of HM10.out.r (by simp)
            have hk := keeps6 W10 (w.heap.size + 1 + 1) (.int .i64 d0) (.bool dn) (.slice da dl dc) (.int .i64 i0) (.bool iN) (.slice ia il ic)
            have hP9 := HP10.out.keeps hnR hnR hk
            have hQ9 := HQ10.out.keeps hnR hnR hk
            have hB9 := set6 HB10.out (w.heap.size + 1 + 1) (by omega) (.int .i64 d0) (.bool dn) (.slice da dl dc) (.int .i64 i0) (.bool iN) (.slice ia il ic)
            have hZ := HM10.out.r.put6 (.int .i64 d0) (.bool dn) (.slice da dl dc) (.int .i64 i0) (.bool iN) (.slice ia il ic)
            have hWW : ((((((W10.setCell ⟨w.heap.size + 1 + 1, 0, none⟩ (.int .i64 d0)).setCell ⟨w.heap.size + 1 + 1, 1, none⟩ (.bool dn)).setCell ⟨w.heap.size + 1 + 1, 2, none⟩ (.slice da dl dc)).setCell ⟨w.heap.size + 1 + 1, 3, none⟩ (.int .i64 i0)).setCell ⟨w.heap.size + 1 + 1, 4, none⟩ (.bool iN)).setCell ⟨w.heap.size + 1 + 1, 5, none⟩ (.slice ia il ic)) = W6 W10 (w.heap.size + 1 + 1) (.int .i64 d0) (.bool dn) (.slice da dl dc) (.int .i64 i0) (.bool iN) (.slice ia il ic) := rfl
            rw [hWW]
            generalize W6 W10 (w.heap.size + 1 + 1) (.int .i64 d0) (.bool dn) (.slice da dl dc) (.int .i64 i0) (.bool iN) (.slice ia il ic) = W9 at *
            have m0 := hZ.cell 0
            have m1 := hZ.cell 1
            have m2 := hZ.cell 2
            have m3 := hZ.cell 3
            have m4 := hZ.cell 4
            have m5 := hZ.cell 5
            simp only [List.getElem?_cons_zero, List.getElem?_cons_succ] at m0 m1 m2 m3 m4 m5
            refine bodyPost_ret (v := .agg #[.int .i64 d0, .bool dn, .slice da dl dc, .int .i64 i0, .bool iN, .slice ia il ic]) ?_ rfl ⟨_, _, _, rfl, ⟨d0, dn, da, dl, dc, i0, iN, ia, il, ic, rfl, hP9, hQ9⟩, HLOW.out, hB9⟩
            simp [results, Tryd.results16, go_sem, m0, m1, m2, m3, m4, m5]
          · have y1 : ((gl : Int) == 0) = false := by rw [beq_eq_false_iff_ne]; omega
            rw [y1]
            clear hone hz
            go_wp2_with fail
            refine (l1Div_any B _ _ n1 ng t1 tg _ (by have := HBW.out; have := HB6.out.size; omega) HZ6.out.1 HZG.out (by omega) (by have := HLEN.out.1; omega) HLEN.out.2).mono ?_
            rintro e w7 ⟨za, zr, qa1, ra1, rfl, ⟨hna, hnr⟩, hda, hb7⟩
            rw [HVV.out.1, HVG.out] at hda
            have HDA := hidG hda
            obtain ⟨d0, dn, da, dl, dc, rfl⟩ := hna.shape
            obtain ⟨e0, en, ea, el, ec, rfl⟩ := hnr.shape
            obtain ⟨W8, hW8⟩ : ∃ W8, (w7.alloc (.cells #[.int .i64 d0, .bool dn, .slice da dl dc] 28)).alloc (.cells #[.int .i64 e0, .bool en, .slice ea el ec] 28) = W8 := ⟨_, rfl⟩
            have HW8 := hidG hW8
            have hb8 : Below w7.heap.size w7 W8 := by rw [← hW8]; exact below_al (below_alloc _ _) _
            have hax : Bx W8 w7.heap.size [.int .i64 d0, .bool dn, .slice da dl dc] := by rw [← hW8]; exact (bx_new w7 _ _).alloc _
            have hb68 : Below w6.heap.size w6 W8 := hb7.trans (hb8.mono hb7.size)
            have HM8 := hidG (HM6.out.below (N := w6.heap.size) HS6.out hb68)
            have HB8 := hidG (HB6.out.trans (hb68.mono HB6.out.size))
            have HS8 : Hid (w.heap.size + 3 ≤ W8.heap.size) := Nat.le_trans HS6.out hb68.size
            have HZ8 := hidG (And.intro (HZ6.out.2.below hb68) (HZG.out.below hb68))
            have HNA : Hid (IsN B W8 (.agg #[.int .i64 d0, .bool dn, .slice da dl dc]) qa1) := (hna.below hb8).mono (by have := HBW.out; have := HB6.out.size; omega)
            have HAX : Hid (∀ W, Below W8.heap.size W8 W → Bx W w7.heap.size [.int .i64 d0, .bool dn, .slice da dl dc]) := fun W hW => hax.below hax.lt hW
            have hg8 := HGX6.out W8 hb68
            have g1'' := hg8.cell 0
            have g2'' := hg8.cell 1
            have g3'' := hg8.cell 2
            have b0' := HM8.out.b.cell 0
            have b1' := HM8.out.b.cell 1
            have b2' := HM8.out.b.cell 2
            simp only [List.getElem?_cons_zero, List.getElem?_cons_succ] at g1'' g2'' g3'' b0' b1' b2'
            clear hna hnr hda hb7 hW8 hb8 hax hb68 hg8 a0 a1 a2 b0 b1 b2 g1' g2' g3'
            go_upto_region 10 with fail
            rw [HW8.out]
            go_wp2_with fail
            refine (l1Div_any B _ _ n2 ng t2 tg W8 (by have := HBW.out; have := HB8.out.size; omega) HZ8.out.1 HZ8.out.2 (by omega) (by have := HLEN.out.1; omega) HLEN.out.2).mono ?_
            rintro e w9 ⟨zb, zs, qb1, rb1, rfl, ⟨hnb, hns⟩, hdb, hb9⟩
            rw [HVV.out.2, HVG.out] at hdb
            have HLO := hidG (low_of_div (x) (y) (gcdI (x) (y)) qa1 ra1 qb1 rb1 (by have := HYP.out; omega) (by rw [if_neg (by have := HYP.out; omega)]) HDA.out hdb)
            obtain ⟨i0, iN, ia, il, ic, rfl⟩ := hnb.shape
            obtain ⟨j0, jn, ja, jl, jc, rfl⟩ := hns.shape
            obtain ⟨W10, hW10⟩ : ∃ W10, (w9.alloc (.cells #[.int .i64 i0, .bool iN, .slice ia il ic] 28)).alloc (.cells #[.int .i64 j0, .bool jn, .slice ja jl jc] 28) = W10 := ⟨_, rfl⟩
            have HW10 := hidG hW10
            have hb10 : Below w9.heap.size w9 W10 := by rw [← hW10]; exact below_al (below_alloc _ _) _
            have hbx : Bx W10 w9.heap.size [.int .i64 i0, .bool iN, .slice ia il ic] := by rw [← hW10]; exact (bx_new w9 _ _).alloc _
            have hb810 : Below W8.heap.size W8 W10 := hb9.trans (hb10.mono hb9.size)
            have HM10 := hidG (HM8.out.below (N := W8.heap.size) HS8.out hb810)
            have HB10 := hidG (HB8.out.trans (hb810.mono HB8.out.size))
            have HP10 : Hid (NumZ B W10 (.agg #[.int .i64 d0, .bool dn, .slice da dl dc]) qa1 1000) := numZ_of (HNA.out.below hb810) t1 HZ6.out.1.1 (low_len1 HLO.out HVV.out.1) len1
            have HQ10 : Hid (NumZ B W10 (.agg #[.int .i64 i0, .bool iN, .slice ia il ic]) qb1 1000) := numZ_of ((hnb.below hb10).mono (by have := HBW.out; have := HB8.out.size; omega)) t2 HZ6.out.2.1 (low_len2 HLO.out HVV.out.2) len2
            have HLOW := hidG (HL.out _ _ HLO.out)
            have hax := HAX.out W10 hb810
            have u0 := hax.cell 0
            have u1 := hax.cell 1
            have u2 := hax.cell 2
            have v0 := hbx.cell 0
            have v1 := hbx.cell 1
            have v2 := hbx.cell 2
            simp only [List.getElem?_cons_zero, List.getElem?_cons_succ] at u0 u1 u2 v0 v1 v2
            clear hnb hns hdb hb9 hW10 hb10 hbx hb810 hax b0' b1' b2' g1'' g2'' g3''
            go_upto_region 11 with fail
            rw [HW10.out]
            have r0 := HM10.out.r.cell 0
            have r1 := HM10.out.r.cell 1
            have r2 := HM10.out.r.cell 2
            have r3 := HM10.out.r.cell 3
            have r4 := HM10.out.r.cell 4
            have r5 := HM10.out.r.cell 5
            simp only [List.getElem?_cons_zero, List.getElem?_cons_succ] at r0 r1 r2 r3 r4 r5
            have f0 := HM10.out.r.frozen 0
            have f1 := HM10.out.r.frozen 1
            have f2 := HM10.out.r.frozen 2
            have f3 := HM10.out.r.frozen 3
            have f4 := HM10.out.r.frozen 4
            have f5 := HM10.out.r.frozen 5
            go_wp2
            have hnR : NoInt W10 (w.heap.size + 1 + 1) := noInt_of HM10.out.r (by simp)
            have hk := keeps6 W10 (w.heap.size + 1 + 1) (.int .i64 d0) (.bool dn) (.slice da dl dc) (.int .i64 i0) (.bool iN) (.slice ia il ic)
            have hP9 := HP10.out.keeps hnR hnR hk
            have hQ9 := HQ10.out.keeps hnR hnR hk
            have hB9 := set6 HB10.out (w.heap.size + 1 + 1) (by omega) (.int .i64 d0) (.bool dn) (.slice da dl dc) (.int .i64 i0) (.bool iN) (.slice ia il ic)
            have hZ := HM10.out.r.put6 (.int .i64 d0) (.bool dn) (.slice da dl dc) (.int .i64 i0) (.bool iN) (.slice ia il ic)
            have hWW : ((((((W10.setCell ⟨w.heap.size + 1 + 1, 0, none⟩ (.int .i64 d0)).setCell ⟨w.heap.size + 1 + 1, 1, none⟩ (.bool dn)).setCell ⟨w.heap.size + 1 + 1, 2, none⟩ (.slice da dl dc)).setCell ⟨w.heap.size + 1 + 1, 3, none⟩ (.int .i64 i0)).setCell ⟨w.heap.size + 1 + 1, 4, none⟩ (.bool iN)).setCell ⟨w.heap.size + 1 + 1, 5, none⟩ (.slice ia il ic)) = W6 W10 (w.heap.size + 1 + 1) (.int .i64 d0) (.bool dn) (.slice da dl dc) (.int .i64 i0) (.bool iN) (.slice ia il ic) := rfl
            rw [hWW]
            generalize W6 W10 (w.heap.size + 1 + 1) (.int .i64 d0) (.bool dn) (.slice da dl dc) (.int .i64 i0) (.bool iN) (.slice ia il ic) = W9 at *
            have m0 := hZ.cell 0
            have m1 := hZ.cell 1
            have m2 := hZ.cell 2
            have m3 := hZ.cell 3
            have m4 := hZ.cell 4
            have m5 := hZ.cell 5
            simp only [List.getElem?_cons_zero, List.getElem?_cons_succ] at m0 m1 m2 m3 m4 m5
            refine bodyPost_ret (v := .agg #[.int .i64 d0, .bool dn, .slice da dl dc, .int .i64 i0, .bool iN, .slice ia il ic]) ?_ rfl ⟨_, _, _, rfl, ⟨d0, dn, da, dl, dc, i0, iN, ia, il, ic, rfl, hP9, hQ9⟩, HLOW.out, hB9⟩
            simp [results, Tryd.results16, go_sem, m0, m1, m2, m3, m4, m5]
      · have z1 : ((ql : Int) == 0) = false := by rw [beq_eq_false_iff_ne]; omega
        rw [z1]
        clear hone hz
        go_wp2_with fail
        obtain ⟨n1, t1, hz1, v1, len1⟩ := HP3.out
        obtain ⟨n2, t2, hz2, v2, len2⟩ := HQ3.out
        have HZZ := hidG (And.intro hz1 hz2)
        have HVV := hidG (And.intro v1 v2)
        clear hz1 hz2 v1 v2
        refine (l1Gcd_any B _ _ n1 n2 t1 t2 1000 _ (by have := HBW.out; have := HB3.out.size; omega) HZZ.out.1 HZZ.out.2 len1 len2 (by omega)).mono ?_
        rintro e w4 ⟨zg, rfl, hg, hb4⟩
        rw [HVV.out.1, HVV.out.2] at hg
        obtain ⟨g0, gn, ga, gl, gc, rfl⟩ := hg.shape
        obtain ⟨W5, hW5⟩ : ∃ W5, w4.alloc (.cells #[.int .i64 g0, .bool gn, .slice ga gl gc] 28) = W5 := ⟨_, rfl⟩
        have HW5 := hidG hW5
        have hb5 : Below w4.heap.size w4 W5 := by rw [← hW5]; exact below_alloc _ _
        have hgx : Bx W5 w4.heap.size [.int .i64 g0, .bool gn, .slice ga gl gc] := by rw [← hW5]; exact bx_new w4 _ _
        have hb35 : Below w3.heap.size w3 W5 := hb4.trans (hb5.mono hb4.size)
        have HM5 := hidG (HM3.out.below (N := w3.heap.size) HS3.out hb35)
        have HB5 := hidG (HB3.out.trans (hb35.mono HB3.out.size))
        have HS5 : Hid (w.heap.size + 3 ≤ w4.heap.size) := Nat.le_trans HS3.out hb4.size
        have HG5 := hidG (hg.below hb5)
        have HZ5 := hidG (And.intro (HZZ.out.1.below hb35) (HZZ.out.2.below hb35))
        have HGX : Hid (∀ W, Below W5.heap.size W5 W → Bx W w4.heap.size [.int .i64 g0, .bool gn, .slice ga gl gc]) := fun W hW => hgx.below hgx.lt hW
        have g1 := hgx.cell 0
        have g2 := hgx.cell 1
        have g3 := hgx.cell 2
        simp only [List.getElem?_cons_zero, List.getElem?_cons_succ] at g1 g2 g3
        clear hg hW5 hb4 hb5 hgx hb35 a0 a1 a2 b0 b1 b2
        go_upto_region 8 with fail
        rw [HW5.out]
        refine (l1IsSmall_ex g0 gn ga gl gc W5).mono ?_
        rintro e w6 ⟨rfl, hw6⟩
        have hb6 : Below W5.heap.size W5 w6 := by rw [hw6]; exact below_alloc _ _
        have HSW : Hid (w.heap.size + 3 ≤ W5.heap.size) := Nat.le_trans HS5.out (Nat.le_of_lt (HGX.out W5 (Below.refl _ _)).lt)
        have HM6 := hidG (HM5.out.below (N := W5.heap.size) HSW.out hb6)
        have HB6 := hidG (HB5.out.trans (hb6.mono HB5.out.size))
        have HG6 := hidG (HG5.out.below hb6)
        have HZ6 := hidG (And.intro (HZ5.out.1.below hb6) (HZ5.out.2.below hb6))
        have HGO := hidG (isN_one HG5.out)
        have hx6 := HGX.out w6 hb6
        have g1' := hx6.cell 0
        have g2' := hx6.cell 1
        have g3' := hx6.cell 2
        simp only [List.getElem?_cons_zero, List.getElem?_cons_succ] at g1' g2' g3'
        have HS6 : Hid (w.heap.size + 3 ≤ w6.heap.size) := Nat.le_trans HSW.out hb6.size
        have HGX6 : Hid (∀ W, Below w6.heap.size w6 W → Bx W w4.heap.size [.int .i64 g0, .bool gn, .slice ga gl gc]) := fun W hW => HGX.out W ((show Below W5.heap.size W5 w6 from hb6).trans (hW.mono hb6.size))
        clear hw6 hb6 hx6 g1 g2 g3
        have a0 := HM6.out.a.cell 0
        have a1 := HM6.out.a.cell 1
        have a2 := HM6.out.a.cell 2
        have b0 := HM6.out.b.cell 0
        have b1 := HM6.out.b.cell 1
        have b2 := HM6.out.b.cell 2
        simp only [List.getElem?_cons_zero, List.getElem?_cons_succ] at a0 a1 a2 b0 b1 b2
        by_cases hg1 : gcdI (x) (y) = 1
        · have hone := HGO.out
          rw [decide_eq_true hg1, Bool.and_eq_true] at hone
          obtain ⟨y1, y2⟩ := hone
          rw [y1]
          have HP6 : Hid (NumZ B w6 (.agg #[.int .i64 p0, .bool pn, .slice pa pl pc]) (x) 1000) := ⟨_, _, HZ6.out.1, HVV.out.1, len1⟩
          have HQ6 : Hid (NumZ B w6 (.agg #[.int .i64 q0, .bool qn, .slice qa ql qc]) (y) 1000) := ⟨_, _, HZ6.out.2, HVV.out.2, len2⟩
          have HLOW : Hid (IsLow x y (x) (y)) := HL.out _ _ (isLow_one HYP.out (by unfold gcdI at hg1; omega))
          clear y1
          have r0 := HM6.out.r.cell 0
          have r1 := HM6.out.r.cell 1
          have r2 := HM6.out.r.cell 2
          have r3 := HM6.out.r.cell 3
          have r4 := HM6.out.r.cell 4
          have r5 := HM6.out.r.cell 5
          simp only [List.getElem?_cons_zero, List.getElem?_cons_succ] at r0 r1 r2 r3 r4 r5
          have f0 := HM6.out.r.frozen 0
          have f1 := HM6.out.r.frozen 1
          have f2 := HM6.out.r.frozen 2
          have f3 := HM6.out.r.frozen 3
          have f4 := HM6.out.r.frozen 4
          have f5 := HM6.out.r.frozen 5
          go_wp2
          have hnR : NoInt w6 (w.heap.size + 1 + 1) := noInt_of HM6.out.r (by simp)
          have hk := keeps6 w6 (w.heap.size + 1 + 1) (.int .i64 p0) (.bool pn) (.slice pa pl pc) (.int .i64 q0) (.bool qn) (.slice qa ql qc)
          have hP9 := HP6.out.keeps hnR hnR hk
          have hQ9 := HQ6.out.keeps hnR hnR hk
          have hB9 := set6 HB6.out (w.heap.size + 1 + 1) (by omega) (.int .i64 p0) (.bool pn) (.slice pa pl pc) (.int .i64 q0) (.bool qn) (.slice qa ql qc)
          have hZ := HM6.out.r.put6 (.int .i64 p0) (.bool pn) (.slice pa pl pc) (.int .i64 q0) (.bool qn) (.slice qa ql qc)
          have hWW : ((((((w6.setCell ⟨w.heap.size + 1 + 1, 0, none⟩ (.int .i64 p0)).setCell ⟨w.heap.size + 1 + 1, 1, none⟩ (.bool pn)).setCell ⟨w.heap.size + 1 + 1, 2, none⟩ (.slice pa pl pc)).setCell ⟨w.heap.size + 1 + 1, 3, none⟩ (.int .i64 q0)).setCell ⟨w.heap.size + 1 + 1, 4, none⟩ (.bool qn)).setCell ⟨w.heap.size + 1 + 1, 5, none⟩ (.slice qa ql qc)) = W6 w6 (w.heap.size + 1 + 1) (.int .i64 p0) (.bool pn) (.slice pa pl pc) (.int .i64 q0) (.bool qn) (.slice qa ql qc) := rfl
          rw [hWW]
          generalize W6 w6 (w.heap.size + 1 + 1) (.int .i64 p0) (.bool pn) (.slice pa pl pc) (.int .i64 q0) (.bool qn) (.slice qa ql qc) = W9 at *
          have m0 := hZ.cell 0
          have m1 := hZ.cell 1
          have m2 := hZ.cell 2
          have m3 := hZ.cell 3
          have m4 := hZ.cell 4
          have m5 := hZ.cell 5
          simp only [List.getElem?_cons_zero, List.getElem?_cons_succ] at m0 m1 m2 m3 m4 m5
          refine bodyPost_ret (v := .agg #[.int .i64 p0, .bool pn, .slice pa pl pc, .int .i64 q0, .bool qn, .slice qa ql qc]) ?_ rfl ⟨_, _, _, rfl, ⟨p0, pn, pa, pl, pc, q0, qn, qa, ql, qc, rfl, hP9, hQ9⟩, HLOW.out, hB9⟩
          simp [results, Tryd.results16, go_sem, m0, m1, m2, m3, m4, m5]
        · have hone := HGO.out
          rw [decide_eq_false hg1] at hone
          obtain ⟨ng, tg, hzg, vg⟩ := HG6.out
          have HZG := hidG hzg
          have HVG := hidG vg
          have HLEN : Hid (tg.length ≤ 1000 ∧ tg ≠ []) := gcd_len2 ng n2 tg t2 (x) (y) HYP.out hzg.2.1 HZ6.out.2.1 vg HVV.out.2 len2
          clear hzg vg
          by_cases hz : gl = 0
          · have y1 : ((gl : Int) == 0) = true := by rw [beq_iff_eq]; omega
            have y2 : (g0 == 1) = false := by rw [y1] at hone; exact hone
            rw [y1]
            clear hone hz
            go_wp2_with fail
            refine (l1Div_any B _ _ n1 ng t1 tg _ (by have := HBW.out; have := HB6.out.size; omega) HZ6.out.1 HZG.out (by omega) (by have := HLEN.out.1; omega) HLEN.out.2).mono ?_
            rintro e w7 ⟨za, zr, qa1, ra1, rfl, ⟨hna, hnr⟩, hda, hb7⟩
            rw [HVV.out.1, HVG.out] at hda
            have HDA := hidG hda
            obtain ⟨d0, dn, da, dl, dc, rfl⟩ := hna.shape
            obtain ⟨e0, en, ea, el, ec, rfl⟩ := hnr.shape
            obtain ⟨W8, hW8⟩ : ∃ W8, (w7.alloc (.cells #[.int .i64 d0, .bool dn, .slice da dl dc] 28)).alloc (.cells #[.int .i64 e0, .bool en, .slice ea el ec] 28) = W8 := ⟨_, rfl⟩
            have HW8 := hidG hW8
            have hb8 : Below w7.heap.size w7 W8 := by rw [← hW8]; exact below_al (below_alloc _ _) _
            have hax : Bx W8 w7.heap.size [.int .i64 d0, .bool dn, .slice da dl dc] := by rw [← hW8]; exact (bx_new w7 _ _).alloc _
            have hb68 : Below w6.heap.size w6 W8 := hb7.trans (hb8.mono hb7.size)
            have HM8 := hidG (HM6.out.below (N := w6.heap.size) HS6.out hb68)
            have HB8 := hidG (HB6.out.trans (hb68.mono HB6.out.size))
            have HS8 : Hid (w.heap.size + 3 ≤ W8.heap.size) := Nat.le_trans HS6.out hb68.size
            have HZ8 := hidG (And.intro (HZ6.out.2.below hb68) (HZG.out.below hb68))
            have HNA : Hid (IsN B W8 (.agg #[.int .i64 d0, .bool dn, .slice da dl dc]) qa1) := (hna.below hb8).mono (by have := HBW.out; have := HB6.out.size; omega)
            have HAX : Hid (∀ W, Below W8.heap.size W8 W → Bx W w7.heap.size [.int .i64 d0, .bool dn, .slice da dl dc]) := fun W hW => hax.below hax.lt hW
            have hg8 := HGX6.out W8 hb68
            have g1'' := hg8.cell 0
            have g2'' := hg8.cell 1
            have g3'' := hg8.cell 2
            have b0' := HM8.out.b.cell 0
            have b1' := HM8.out.b.cell 1
            have b2' := HM8.out.b.cell 2
            simp only [List.getElem?_cons_zero, List.getElem?_cons_succ] at g1'' g2'' g3'' b0' b1' b2'
            clear hna hnr hda hb7 hW8 hb8 hax hb68 hg8 a0 a1 a2 b0 b1 b2 g1' g2' g3'
            go_upto_region 10 with fail
            rw [HW8.out]
            go_wp2_with fail
            refine (l1Div_any B _ _ n2 ng t2 tg W8 (by have := HBW.out; have := HB8.out.size; omega) HZ8.out.1 HZ8.out.2 (by omega) (by have := HLEN.out.1; omega) HLEN.out.2).mono ?_
            rintro e w9 ⟨zb, zs, qb1, rb1, rfl, ⟨hnb, hns⟩, hdb, hb9⟩
            rw [HVV.out.2, HVG.out] at hdb
            have HLO := hidG (low_of_div (x) (y) (gcdI (x) (y)) qa1 ra1 qb1 rb1 (by have := HYP.out; omega) (by rw [if_neg (by have := HYP.out; omega)]) HDA.out hdb)
            obtain ⟨i0, iN, ia, il, ic, rfl⟩ := hnb.shape
            obtain ⟨j0, jn, ja, jl, jc, rfl⟩ := hns.shape
            obtain ⟨W10, hW10⟩ : ∃ W10, (w9.alloc (.cells #[.int .i64 i0, .bool iN, .slice ia il ic] 28)).alloc (.cells #[.int .i64 j0, .bool jn, .slice ja jl jc] 28) = W10 := ⟨_, rfl⟩
            have HW10 := hidG hW10
            have hb10 : Below w9.heap.size w9 W10 := by rw [← hW10]; exact below_al (below_alloc _ _) _
            have hbx : Bx W10 w9.heap.size [.int .i64 i0, .bool iN, .slice ia il ic] := by rw [← hW10]; exact (bx_new w9 _ _).alloc _
            have hb810 : Below W8.heap.size W8 W10 := hb9.trans (hb10.mono hb9.size)
            have HM10 := hidG (HM8.out.below (N := W8.heap.size) HS8.out hb810)
            have HB10 := hidG (HB8.out.trans (hb810.mono HB8.out.size))
            have HP10 : Hid (NumZ B W10 (.agg #[.int .i64 d0, .bool dn, .slice da dl dc]) qa1 1000) := numZ_of (HNA.out.below hb810) t1 HZ6.out.1.1 (low_len1 HLO.out HVV.out.1) len1
            have HQ10 : Hid (NumZ B W10 (.agg #[.int .i64 i0, .bool iN, .slice ia il ic]) qb1 1000) := numZ_of ((hnb.below hb10).mono (by have := HBW.out; have := HB8.out.size; omega)) t2 HZ6.out.2.1 (low_len2 HLO.out HVV.out.2) len2
            have HLOW := hidG (HL.out _ _ HLO.out)
            have hax := HAX.out W10 hb810
            have u0 := hax.cell 0
            have u1 := hax.cell 1
            have u2 := hax.cell 2
            have v0 := hbx.cell 0
            have v1 := hbx.cell 1
            have v2 := hbx.cell 2
            simp only [List.getElem?_cons_zero, List.getElem?_cons_succ] at u0 u1 u2 v0 v1 v2
            clear hnb hns hdb hb9 hW10 hb10 hbx hb810 hax b0' b1' b2' g1'' g2'' g3''
            go_upto_region 11 with fail
            rw [HW10.out]
            have r0 := HM10.out.r.cell 0
            have r1 := HM10.out.r.cell 1
            have r2 := HM10.out.r.cell 2
            have r3 := HM10.out.r.cell 3
            have r4 := HM10.out.r.cell 4
            have r5 := HM10.out.r.cell 5
            simp only [List.getElem?_cons_zero, List.getElem?_cons_succ] at r0 r1 r2 r3 r4 r5
            have f0 := HM10.out.r.frozen 0
            have f1 := HM10.out.r.frozen 1
            have f2 := HM10.out.r.frozen 2
            have f3 := HM10.out.r.frozen 3
            have f4 := HM10.out.r.frozen 4
            have f5 := HM10.out.r.frozen 5
            go_wp2
            have hnR : NoInt W10 (w.heap.size + 1 + 1) := noInt_of HM10.out.r (by simp)
            have hk := keeps6 W10 (w.heap.size + 1 + 1) (.int .i64 d0) (.bool dn) (.slice da dl dc) (.int .i64 i0) (.bool iN) (.slice ia il ic)
            have hP9 := HP10.out.keeps hnR hnR hk
            have hQ9 := HQ10.out.keeps hnR hnR hk
            have hB9 := set6 HB10.out (w.heap.size + 1 + 1) (by omega) (.int .i64 d0) (.bool dn) (.slice da dl dc) (.int .i64 i0) (.bool iN) (.slice ia il ic)
            have hZ := HM10.out.r.put6 (.int .i64 d0) (.bool dn) (.slice da dl dc) (.int .i64 i0) (.bool iN) (.slice ia il ic)
            have hWW : ((((((W10.setCell ⟨w.heap.size + 1 + 1, 0, none⟩ (.int .i64 d0)).setCell ⟨w.heap.size + 1 + 1, 1, none⟩ (.bool dn)).setCell ⟨w.heap.size + 1 + 1, 2, none⟩ (.slice da dl dc)).setCell ⟨w.heap.size + 1 + 1, 3, none⟩ (.int .i64 i0)).setCell ⟨w.heap.size + 1 + 1, 4, none⟩ (.bool iN)).setCell ⟨w.heap.size + 1 + 1, 5, none⟩ (.slice ia il ic)) = W6 W10 (w.heap.size + 1 + 1) (.int .i64 d0) (.bool dn) (.slice da dl dc) (.int .i64 i0) (.bool iN) (.slice ia il ic) := rfl
            rw [hWW]
            generalize W6 W10 (w.heap.size + 1 + 1) (.int .i64 d0) (.bool dn) (.slice da dl dc) (.int .i64 i0) (.bool iN) (.slice ia il ic) = W9 at *
            have m0 := hZ.cell 0
            have m1 := hZ.cell 1
            have m2 := hZ.cell 2
            have m3 := hZ.cell 3
            have m4 := hZ.cell 4
            have m5 := hZ.cell 5
            simp only [List.getElem?_cons_zero, List.getElem?_cons_succ] at m0 m1 m2 m3 m4 m5
            refine bodyPost_ret (v := .agg #[.int .i64 d0, .bool dn, .slice da dl dc, .int .i64 i0, .bool iN, .slice ia il ic]) ?_ rfl ⟨_, _, _, rfl, ⟨d0, dn, da, dl, dc, i0, iN, ia, il, ic, rfl, hP9, hQ9⟩, HLOW.out, hB9⟩
            simp [results, Tryd.results16, go_sem, m0, m1, m2, m3, m4, m5]
          · have y1 : ((gl : Int) == 0) = false := by rw [beq_eq_false_iff_ne]; omega
            rw [y1]
            clear hone hz
            go_wp2_with fail
            refine (l1Div_any B _ _ n1 ng t1 tg _ (by have := HBW.out; have := HB6.out.size; omega) HZ6.out.1 HZG.out (by omega) (by have := HLEN.out.1; omega) HLEN.out.2).mono ?_
            rintro e w7 ⟨za, zr, qa1, ra1, rfl, ⟨hna, hnr⟩, hda, hb7⟩
            rw [HVV.out.1, HVG.out] at hda
            have HDA := hidG hda
            obtain ⟨d0, dn, da, dl, dc, rfl⟩ := hna.shape
            obtain ⟨e0, en, ea, el, ec, rfl⟩ := hnr.shape
            obtain ⟨W8, hW8⟩ : ∃ W8, (w7.alloc (.cells #[.int .i64 d0, .bool dn, .slice da dl dc] 28)).alloc (.cells #[.int .i64 e0, .bool en, .slice ea el ec] 28) = W8 := ⟨_, rfl⟩
            have HW8 := hidG hW8
            have hb8 : Below w7.heap.size w7 W8 := by rw [← hW8]; exact below_al (below_alloc _ _) _
            have hax : Bx W8 w7.heap.size [.int .i64 d0, .bool dn, .slice da dl dc] := by rw [← hW8]; exact (bx_new w7 _ _).alloc _
            have hb68 : Below w6.heap.size w6 W8 := hb7.trans (hb8.mono hb7.size)
            have HM8 := hidG (HM6.out.below (N := w6.heap.size) HS6.out hb68)
            have HB8 := hidG (HB6.out.trans (hb68.mono HB6.out.size))
            have HS8 : Hid (w.heap.size + 3 ≤ W8.heap.size) := Nat.le_trans HS6.out hb68.size
            have HZ8 := hidG (And.intro (HZ6.out.2.below hb68) (HZG.out.below hb68))
            have HNA : Hid (IsN B W8 (.agg #[.int .i64 d0, .bool dn, .slice da dl dc]) qa1) := (hna.below hb8).mono (by have := HBW.out; have := HB6.out.size; omega)
            have HAX : Hid (∀ W, Below W8.heap.size W8 W → Bx W w7.heap.size [.int .i64 d0, .bool dn, .slice da dl dc]) := fun W hW => hax.below hax.lt hW
            have hg8 := HGX6.out W8 hb68
            have g1'' := hg8.cell 0
            have g2'' := hg8.cell 1
            have g3'' := hg8.cell 2
            have b0' := HM8.out.b.cell 0
            have b1' := HM8.out.b.cell 1
            have b2' := HM8.out.b.cell 2
            simp only [List.getElem?_cons_zero, List.getElem?_cons_succ] at g1'' g2'' g3'' b0' b1' b2'
            clear hna hnr hda hb7 hW8 hb8 hax hb68 hg8 a0 a1 a2 b0 b1 b2 g1' g2' g3'
            go_upto_region 10 with fail
            rw [HW8.out]
            go_wp2_with fail
            refine (l1Div_any B _ _ n2 ng t2 tg W8 (by have := HBW.out; have := HB8.out.size; omega) HZ8.out.1 HZ8.out.2 (by omega) (by have := HLEN.out.1; omega) HLEN.out.2).mono ?_
            rintro e w9 ⟨zb, zs, qb1, rb1, rfl, ⟨hnb, hns⟩, hdb, hb9⟩
            rw [HVV.out.2, HVG.out] at hdb
            have HLO := hidG (low_of_div (x) (y) (gcdI (x) (y)) qa1 ra1 qb1 rb1 (by have := HYP.out; omega) (by rw [if_neg (by have := HYP.out; omega)]) HDA.out hdb)
            obtain ⟨i0, iN, ia, il, ic, rfl⟩ := hnb.shape
            obtain ⟨j0, jn, ja, jl, jc, rfl⟩ := hns.shape
            obtain ⟨W10, hW10⟩ : ∃ W10, (w9.alloc (.cells #[.int .i64 i0, .bool iN, .slice ia il ic] 28)).alloc (.cells #[.int .i64 j0, .bool jn, .slice ja jl jc] 28) = W10 := ⟨_, rfl⟩
            have HW10 := hidG hW10
            have hb10 : Below w9.heap.size w9 W10 := by rw [← hW10]; exact below_al (below_alloc _ _) _
            have hbx : Bx W10 w9.heap.size [.int .i64 i0, .bool iN, .slice ia il ic] := by rw [← hW10]; exact (bx_new w9 _ _).alloc _
            have hb810 : Below W8.heap.size W8 W10 := hb9.trans (hb10.mono hb9.size)
            have HM10 := hidG (HM8.out.below (N := W8.heap.size) HS8.out hb810)
            have HB10 := hidG (HB8.out.trans (hb810.mono HB8.out.size))
            have HP10 : Hid (NumZ B W10 (.agg #[.int .i64 d0, .bool dn, .slice da dl dc]) qa1 1000) := numZ_of (HNA.out.below hb810) t1 HZ6.out.1.1 (low_len1 HLO.out HVV.out.1) len1
            have HQ10 : Hid (NumZ B W10 (.agg #[.int .i64 i0, .bool iN, .slice ia il ic]) qb1 1000) := numZ_of ((hnb.below hb10).mono (by have := HBW.out; have := HB8.out.size; omega)) t2 HZ6.out.2.1 (low_len2 HLO.out HVV.out.2) len2
            have HLOW := hidG (HL.out _ _ HLO.out)
            have hax := HAX.out W10 hb810
            have u0 := hax.cell 0
            have u1 := hax.cell 1
            have u2 := hax.cell 2
            have v0 := hbx.cell 0
            have v1 := hbx.cell 1
            have v2 := hbx.cell 2
            simp only [List.getElem?_cons_zero, List.getElem?_cons_succ] at u0 u1 u2 v0 v1 v2
            clear hnb hns hdb hb9 hW10 hb10 hbx hb810 hax b0' b1' b2' g1'' g2'' g3''
            go_upto_region 11 with fail
            rw [HW10.out]
            have r0 := HM10.out.r.cell 0
            have r1 := HM10.out.r.cell 1
            have r2 := HM10.out.r.cell 2
            have r3 := HM10.out.r.cell 3
            have r4 := HM10.out.r.cell 4
            have r5 := HM10.out.r.cell 5
            simp only [List.getElem?_cons_zero, List.getElem?_cons_succ] at r0 r1 r2 r3 r4 r5
            have f0 := HM10.out.r.frozen 0
            have f1 := HM10.out.r.frozen 1
            have f2 := HM10.out.r.frozen 2
            have f3 := HM10.out.r.frozen 3
            have f4 := HM10.out.r.frozen 4
            have f5 := HM10.out.r.frozen 5
            go_wp2
            have hnR : NoInt W10 (w.heap.size + 1 + 1) := noInt_of HM10.out.r (by simp)
            have hk := keeps6 W10 (w.heap.size + 1 + 1) (.int .i64 d0) (.bool dn) (.slice da dl dc) (.int .i64 i0) (.bool iN) (.slice ia il ic)
            have hP9 := HP10.out.keeps hnR hnR hk
            have hQ9 := HQ10.out.keeps hnR hnR hk
            have hB9 := set6 HB10.out (w.heap.size + 1 + 1) (by omega) (.int .i64 d0) (.bool dn) (.slice da dl dc) (.int .i64 i0) (.bool iN) (.slice ia il ic)
            have hZ := HM10.out.r.put6 (.int .i64 d0) (.bool dn) (.slice da dl dc) (.int .i64 i0) (.bool iN) (.slice ia il ic)
            have hWW : ((((((W10.setCell ⟨w.heap.size + 1 + 1, 0, none⟩ (.int .i64 d0)).setCell ⟨w.heap.size + 1 + 1, 1, none⟩ (.bool dn)).setCell ⟨w.heap.size + 1 + 1, 2, none⟩ (.slice da dl dc)).setCell ⟨w.heap.size + 1 + 1, 3, none⟩ (.int .i64 i0)).setCell ⟨w.heap.size + 1 + 1, 4, none⟩ (.bool iN)).setCell ⟨w.heap.size + 1 + 1, 5, none⟩ (.slice ia il ic)) = W6 W10 (w.heap.size + 1 + 1) (.int .i64 d0) (.bool dn) (.slice da dl dc) (.int .i64 i0) (.bool iN) (.slice ia il ic) := rfl
            rw [hWW]
            generalize W6 W10 (w.heap.size + 1 + 1) (.int .i64 d0) (.bool dn) (.slice da dl dc) (.int .i64 i0) (.bool iN) (.slice ia il ic) = W9 at *
            have m0 := hZ.cell 0
            have m1 := hZ.cell 1
            have m2 := hZ.cell 2
            have m3 := hZ.cell 3
            have m4 := hZ.cell 4
            have m5 := hZ.cell 5
            simp only [List.getElem?_cons_zero, List.getElem?_cons_succ] at m0 m1 m2 m3 m4 m5
            refine bodyPost_ret (v := .agg #[.int .i64 d0, .bool dn, .slice da dl dc, .int .i64 i0, .bool iN, .slice ia il ic]) ?_ rfl ⟨_, _, _, rfl, ⟨d0, dn, da, dl, dc, i0, iN, ia, il, ic, rfl, hP9, hQ9⟩, HLOW.out, hB9⟩
            simp [results, Tryd.results16, go_sem, m0, m1, m2, m3, m4, m5]
end Go.Proofs.YtpjnglcojamfmaaDoor
namespace Go.Proofs.YtpjnglcojamfmaaDoor
open Go.ChangeShapes Go.WideShapes Go.ChangeAt Go.RowKit
/-- A part of a rational by value: small has no limbs of its own. -/
theorem isZ_len {B : Nat} {w : World} {z0 : Int} {zn : Bool} {za : Option Addr} {zl zc : Nat} {neg : Bool} {t : List Nat} (hz : IsZ B w (.agg #[.int .i64 z0, .bool zn, .slice za zl zc]) neg t) : (zl = 0 ∧ t.length ≤ 2) ∨ (zl = t.length ∧ 2 < t.length ∧ zl ≤ maxLen) := by
  obtain ⟨_, _, h3⟩ := hz
  rcases h3 with ⟨h3, v, e, p, c, rfl, hl, hcap, _⟩ | ⟨h3, e⟩
  · simp at e; exact .inr ⟨e.2.2.2.1, h3, by omega⟩
  · simp at e; exact .inl ⟨e.2.2.2.1, h3⟩
theorem IsQN.below {B : Nat} {w w' : World} {z : Value} {x y : Int} (h : IsQN B w z x y) (hb : Below w.heap.size w w') : IsQN B w' z x y := by
  obtain ⟨p0, pn, pa, pl, pc, q0, qn, qa, ql, qc, e, h1, h2⟩ := h
  exact ⟨p0, pn, pa, pl, pc, q0, qn, qa, ql, qc, e, h1.below hb, h2.below hb⟩
theorem digC_le (t : List Nat) : digC t ≤ 9 * t.length + 1 := by
  have := textD_len t
  unfold digC; split <;> omega
theorem full_size (ng : Bool) (t : List Nat) (h : t.length ≤ 600) : (fullT ng t).size ≤ 6000 := by
  have h1 := textD_len t
  unfold fullT
  split
  · rw [strB_size]; decide
  · split
    · rw [strB_size, List.length_cons]; omega
    · rw [strB_size]; omega
set_option maxRecDepth 100000 in
set_option maxHeartbeats 1000000 in
theorem l2Fits_any (B : Nat) (p0 : Int) (pn : Bool) (pa : Option Addr) (pl pc : Nat) (q0 : Int) (qn : Bool) (qa : Option Addr) (ql qc : Nat) (n1 n2 : Bool) (t1 t2 : List Nat) (w : World) (hBw : B ≤ w.heap.size)
    (hz1 : IsZ B w (.agg #[.int .i64 p0, .bool pn, .slice pa pl pc]) n1 t1) (hz2 : IsZ B w (.agg #[.int .i64 q0, .bool qn, .slice qa ql qc]) n2 t2) (h1 : t1.length ≤ 600) (h2 : t2.length ≤ 600) :
    Calls Tryd.prog 29 #[.agg #[.int .i64 p0, .bool pn, .slice pa pl pc, .int .i64 q0, .bool qn, .slice qa ql qc], .int .i64 2500] w fun e w' => e = .returned (.bool (decide (digC t1 ≤ 2500 ∧ digC t2 ≤ 2500))) ∧ Below w.heap.size w w' := by
  have hl1 := isZ_len hz1
  have hl2 := isZ_len hz2
  have HZ1 := hidG hz1
  have HZ2 := hidG hz2
  have HBW := hidG hBw
  clear hz1 hz2 hBw
  obtain ⟨W0, hW0⟩ : ∃ W0, w.alloc (.cells #[.int .i64 p0, .bool pn, .slice pa pl pc, .int .i64 q0, .bool qn, .slice qa ql qc] 40) = W0 := ⟨_, rfl⟩
  have HW0 := hidG hW0
  have HB0 : Hid (Below w.heap.size w W0) := by show Below w.heap.size w W0; rw [← hW0]; exact below_alloc _ _
  have hx1 : Bx W0 w.heap.size [.int .i64 p0, .bool pn, .slice pa pl pc, .int .i64 q0, .bool qn, .slice qa ql qc] := by rw [← hW0]; exact bx_new w _ _
  have HX : Hid (∀ W, Below W0.heap.size W0 W → Bx W w.heap.size [.int .i64 p0, .bool pn, .slice pa pl pc, .int .i64 q0, .bool qn, .slice qa ql qc]) := fun W hW => hx1.below hx1.lt hW
  have k0 := hx1.cell 0
  have k1 := hx1.cell 1
  have k2 := hx1.cell 2
  simp only [List.getElem?_cons_zero, List.getElem?_cons_succ] at k0 k1 k2
  clear hW0 hx1
  have HD1 : Hid (digC t1 ≤ 9 * t1.length + 1) := digC_le t1
  have HD2 : Hid (digC t2 ≤ 9 * t2.length + 1) := digC_le t2
  obtain ⟨d1, hd1⟩ : ∃ d, digC t1 = d := ⟨_, rfl⟩
  obtain ⟨d2, hd2⟩ : ∃ d, digC t2 = d := ⟨_, rfl⟩
  have HE1 := hidG hd1
  have HE2 := hidG hd2
  rw [hd1] at HD1
  rw [hd2] at HD2
  rw [hd1, hd2]
  have b1 : d1 ≤ 6000 := by have := HD1.out; omega
  have b2 : d2 ≤ 6000 := by have := HD2.out; omega
  have HL := hidG (And.intro hl1 hl2)
  clear hl1 hl2 hd1 hd2
  -- what stands behind the question whether both are small
  have rest : ∀ W1, Below W0.heap.size W0 W1 → Hid (Calls Tryd.prog 47 #[.agg #[.int .i64 p0, .bool pn, .slice pa pl pc]] W1 (fun e w' => e = .returned (.int .i64 (d1 : Nat)) ∧ Below W1.heap.size W1 w')) := fun W1 hW1 => by
    show Calls _ _ _ _ _
    refine (l1Digits_any B _ n1 t1 W1 (HZ1.out.below (HB0.out.trans (hW1.mono HB0.out.size))) (by have := HBW.out; have := HB0.out.size; have := hW1.size; omega) h1).mono ?_
    rintro e w' ⟨rfl, hb⟩
    exact ⟨by rw [HE1.out], hb⟩
  have rest2 : ∀ W1, Below W0.heap.size W0 W1 → Hid (Calls Tryd.prog 47 #[.agg #[.int .i64 q0, .bool qn, .slice qa ql qc]] W1 (fun e w' => e = .returned (.int .i64 (d2 : Nat)) ∧ Below W1.heap.size W1 w')) := fun W1 hW1 => by
    show Calls _ _ _ _ _
    refine (l1Digits_any B _ n2 t2 W1 (HZ2.out.below (HB0.out.trans (hW1.mono HB0.out.size))) (by have := HBW.out; have := HB0.out.size; have := hW1.size; omega) h2).mono ?_
    rintro e w' ⟨rfl, hb⟩
    exact ⟨by rw [HE2.out], hb⟩
  have REST := hidG rest
  have REST2 := hidG rest2
  clear rest rest2
  go_enter Tryd.func29, Tryd.ntmps29
  go_upto_region 1 with fail
  rw [HW0.out]
  go_wp2_with fail
  refine (l1IsSmall_ex p0 pn pa pl pc W0).mono ?_
  rintro e w1 ⟨rfl, hw1⟩
  have hb1 : Below W0.heap.size W0 w1 := by rw [hw1]; exact below_alloc _ _
  have HQ1 := hidG hb1
  have hx := HX.out w1 hb1
  clear hw1 hb1 k0 k1 k2
  have k0 := hx.cell 0
  have k1 := hx.cell 1
  have k2 := hx.cell 2
  have k3 := hx.cell 3
  have k4 := hx.cell 4
  have k5 := hx.cell 5
  simp only [List.getElem?_cons_zero, List.getElem?_cons_succ] at k0 k1 k2 k3 k4 k5
  clear hx
  by_cases hpz : pl = 0
  · have z : ((pl : Int) == 0) = true := by rw [beq_iff_eq]; omega
    have HPZ := hidG hpz
    rw [z]
    clear z hpz
    go_wp2_with fail
    refine (l1IsSmall_ex q0 qn qa ql qc w1).mono ?_
    rintro e w2 ⟨rfl, hw2⟩
    have hb2 : Below w1.heap.size w1 w2 := by rw [hw2]; exact below_alloc _ _
    have HQ2 := hidG (HQ1.out.trans (hb2.mono HQ1.out.size))
    have hx := HX.out w2 HQ2.out
    clear hw2 hb2 k0 k1 k2 k3 k4 k5
    have k0 := hx.cell 0
    have k1 := hx.cell 1
    have k2 := hx.cell 2
    have k3 := hx.cell 3
    have k4 := hx.cell 4
    have k5 := hx.cell 5
    simp only [List.getElem?_cons_zero, List.getElem?_cons_succ] at k0 k1 k2 k3 k4 k5
    clear hx
    by_cases hqz : ql = 0
    · have z : ((ql : Int) == 0) = true := by rw [beq_iff_eq]; omega
      have HE : Hid (true = decide (d1 ≤ 2500 ∧ d2 ≤ 2500)) := by
        show true = decide (d1 ≤ 2500 ∧ d2 ≤ 2500)
        have := HL.out
        have := HPZ.out
        have := HD1.out
        have := HD2.out
        rw [eq_comm, decide_eq_true_iff]
        omega
      have HB9 := hidG (HB0.out.trans (HQ2.out.mono HB0.out.size))
      rw [z]
      clear z hqz
      go_wp2
      go_ret
      exact ⟨ret_bool HE.out, HB9.out⟩
    · have z : ((ql : Int) == 0) = false := by rw [beq_eq_false_iff_ne]; omega
      rw [z]
      clear z hqz
      go_wp2_with fail
      refine (REST.out w2 HQ2.out).out.mono ?_
      rintro e w3 ⟨rfl, hb⟩
      have HQ3 := hidG (HQ2.out.trans (hb.mono HQ2.out.size))
      have hx := HX.out w3 HQ3.out
      clear hb k0 k1 k2 k3 k4 k5
      have k3 := hx.cell 3
      have k4 := hx.cell 4
      have k5 := hx.cell 5
      simp only [List.getElem?_cons_zero, List.getElem?_cons_succ] at k3 k4 k5
      clear hx
      by_cases hd : d1 ≤ 2500
      · have z1 : decide ((d1 : Int) ≤ 2500) = true := by rw [decide_eq_true_iff]; omega
        go_wp2_with fail
        refine (REST2.out w3 HQ3.out).out.mono ?_
        rintro e w4 ⟨rfl, hb⟩
        have HB9 := hidG (HB0.out.trans ((HQ3.out.trans (hb.mono HQ3.out.size)).mono HB0.out.size))
        clear hb k3 k4 k5
        by_cases hd2 : d2 ≤ 2500
        · have z2 : decide ((d2 : Int) ≤ 2500) = true := by rw [decide_eq_true_iff]; omega
          go_wp2
          go_ret
          exact ⟨ret_bool (by simp [hd, hd2]), HB9.out⟩
        · have z2 : decide ((d2 : Int) ≤ 2500) = false := by rw [decide_eq_false_iff_not]; omega
          go_wp2
          go_ret
          exact ⟨ret_bool (by simp [hd2]), HB9.out⟩
      · have z1 : decide ((d1 : Int) ≤ 2500) = false := by rw [decide_eq_false_iff_not]; omega
        have HB9 := hidG (HB0.out.trans (HQ3.out.mono HB0.out.size))
        go_wp2
        go_ret
        exact ⟨ret_bool (by simp [hd]), HB9.out⟩
  · have z : ((pl : Int) == 0) = false := by rw [beq_eq_false_iff_ne]; omega
    rw [z]
    clear z hpz
    go_wp2_with fail
    refine (REST.out w1 HQ1.out).out.mono ?_
    rintro e w2 ⟨rfl, hb⟩
    have HQ2 := hidG (HQ1.out.trans (hb.mono HQ1.out.size))
    have hx := HX.out w2 HQ2.out
    clear hb k0 k1 k2 k3 k4 k5
    have k3 := hx.cell 3
    have k4 := hx.cell 4
    have k5 := hx.cell 5
    simp only [List.getElem?_cons_zero, List.getElem?_cons_succ] at k3 k4 k5
    clear hx
    by_cases hd : d1 ≤ 2500
    · have z1 : decide ((d1 : Int) ≤ 2500) = true := by rw [decide_eq_true_iff]; omega
      go_wp2_with fail
      refine (REST2.out w2 HQ2.out).out.mono ?_
      rintro e w3 ⟨rfl, hb⟩
      have HB9 := hidG (HB0.out.trans ((HQ2.out.trans (hb.mono HQ2.out.size)).mono HB0.out.size))
      clear hb k3 k4 k5
      by_cases hd2 : d2 ≤ 2500
      · have z2 : decide ((d2 : Int) ≤ 2500) = true := by rw [decide_eq_true_iff]; omega
        go_wp2
        go_ret
        exact ⟨ret_bool (by simp [hd, hd2]), HB9.out⟩
      · have z2 : decide ((d2 : Int) ≤ 2500) = false := by rw [decide_eq_false_iff_not]; omega
        go_wp2
        go_ret
        exact ⟨ret_bool (by simp [hd2]), HB9.out⟩
    · have z1 : decide ((d1 : Int) ≤ 2500) = false := by rw [decide_eq_false_iff_not]; omega
      have HB9 := hidG (HB0.out.trans (HQ2.out.mono HB0.out.size))
      go_wp2
      go_ret
      exact ⟨ret_bool (by simp [hd]), HB9.out⟩
set_option maxRecDepth 100000 in
set_option maxHeartbeats 1000000 in
theorem l2Text_any (B : Nat) (p0 : Int) (pn : Bool) (pa : Option Addr) (pl pc : Nat) (q0 : Int) (qn : Bool) (qa : Option Addr) (ql qc : Nat) (n1 n2 : Bool) (t1 t2 : List Nat) (x y : Int) (w : World) (hBw : B ≤ w.heap.size)
    (hQ : IsQN B w (.agg #[.int .i64 p0, .bool pn, .slice pa pl pc, .int .i64 q0, .bool qn, .slice qa ql qc]) x y)
    (hz1 : IsZ B w (.agg #[.int .i64 p0, .bool pn, .slice pa pl pc]) n1 t1) (hz2 : IsZ B w (.agg #[.int .i64 q0, .bool qn, .slice qa ql qc]) n2 t2) (h1 : t1.length ≤ 600) (h2 : t2.length ≤ 600) :
    Calls Tryd.prog 30 #[.agg #[.int .i64 p0, .bool pn, .slice pa pl pc, .int .i64 q0, .bool qn, .slice qa ql qc]] w fun e w' => e = .returned (.string (if y = 1 then fullT (negOf n1 t1) t1 else fullT (negOf n1 t1) t1 ++ ⟨#[47]⟩ ++ fullT (negOf n2 t2) t2)) ∧ Below w.heap.size w w' := by
  have HZ1 := hidG hz1
  have HZ2 := hidG hz2
  have HBW := hidG hBw
  have HQN := hidG hQ
  clear hz1 hz2 hBw hQ
  obtain ⟨W0, hW0⟩ : ∃ W0, w.alloc (.cells #[.int .i64 p0, .bool pn, .slice pa pl pc, .int .i64 q0, .bool qn, .slice qa ql qc] 40) = W0 := ⟨_, rfl⟩
  have HW0 := hidG hW0
  have HB0 : Hid (Below w.heap.size w W0) := by show Below w.heap.size w W0; rw [← hW0]; exact below_alloc _ _
  have hx1 : Bx W0 w.heap.size [.int .i64 p0, .bool pn, .slice pa pl pc, .int .i64 q0, .bool qn, .slice qa ql qc] := by rw [← hW0]; exact bx_new w _ _
  have HX : Hid (∀ W, Below W0.heap.size W0 W → Bx W w.heap.size [.int .i64 p0, .bool pn, .slice pa pl pc, .int .i64 q0, .bool qn, .slice qa ql qc]) := fun W hW => hx1.below hx1.lt hW
  have k0 := hx1.cell 0
  have k1 := hx1.cell 1
  have k2 := hx1.cell 2
  have k3 := hx1.cell 3
  have k4 := hx1.cell 4
  have k5 := hx1.cell 5
  simp only [List.getElem?_cons_zero, List.getElem?_cons_succ] at k0 k1 k2 k3 k4 k5
  clear hW0 hx1
  have REST : Hid (∀ W1, Below W0.heap.size W0 W1 → Calls Tryd.prog 49 #[.agg #[.int .i64 p0, .bool pn, .slice pa pl pc]] W1 (fun e w' => e = .returned (.string (fullT (negOf n1 t1) t1)) ∧ Below W1.heap.size W1 w')) := fun W1 hW1 =>
    l1Text_any B _ n1 t1 W1 (HZ1.out.below (HB0.out.trans (hW1.mono HB0.out.size))) (by have := HBW.out; have := HB0.out.size; have := hW1.size; omega) h1
  have REST2 : Hid (∀ W1, Below W0.heap.size W0 W1 → Calls Tryd.prog 49 #[.agg #[.int .i64 q0, .bool qn, .slice qa ql qc]] W1 (fun e w' => e = .returned (.string (fullT (negOf n2 t2) t2)) ∧ Below W1.heap.size W1 w')) := fun W1 hW1 =>
    l1Text_any B _ n2 t2 W1 (HZ2.out.below (HB0.out.trans (hW1.mono HB0.out.size))) (by have := HBW.out; have := HB0.out.size; have := hW1.size; omega) h2
  have HS1 : Hid ((fullT (negOf n1 t1) t1).size ≤ 6000) := full_size _ _ h1
  have HS2 : Hid ((fullT (negOf n2 t2) t2).size ≤ 6000) := full_size _ _ h2
  obtain ⟨f1, hf1⟩ : ∃ f, fullT (negOf n1 t1) t1 = f := ⟨_, rfl⟩
  obtain ⟨f2, hf2⟩ : ∃ f, fullT (negOf n2 t2) t2 = f := ⟨_, rfl⟩
  rw [hf1] at REST HS1 ⊢
  rw [hf2] at REST2 HS2 ⊢
  clear hf1 hf2
  go_enter Tryd.func30, Tryd.ntmps30
  go_upto_region 1 with fail
  rw [HW0.out]
  go_wp2_with fail
  refine (l2Whole_any B _ x y W0 (by have := HBW.out; have := HB0.out.size; omega) (HQN.out.below HB0.out)).mono ?_
  rintro e w1 ⟨rfl, hb1⟩
  have HQ1 := hidG hb1
  have hx := HX.out w1 hb1
  clear hb1 k0 k1 k2 k3 k4 k5
  have k0 := hx.cell 0
  have k1 := hx.cell 1
  have k2 := hx.cell 2
  have k3 := hx.cell 3
  have k4 := hx.cell 4
  have k5 := hx.cell 5
  simp only [List.getElem?_cons_zero, List.getElem?_cons_succ] at k0 k1 k2 k3 k4 k5
  clear hx
  by_cases hy : y = 1
  · have z : decide (y = 1) = true := decide_eq_true hy
    have HY := hidG hy
    rw [z]
    clear z hy
    go_wp2_with fail
    refine (REST.out w1 HQ1.out).mono ?_
    rintro e w2 ⟨rfl, hb⟩
    have HB9 := hidG (HB0.out.trans ((HQ1.out.trans (hb.mono HQ1.out.size)).mono HB0.out.size))
    clear hb k0 k1 k2 k3 k4 k5
    go_wp2
    go_ret
    exact ⟨by first | rfl | (rw [if_pos HY.out]; rfl), HB9.out⟩
  · have z : decide (y = 1) = false := decide_eq_false hy
    have HY := hidG hy
    rw [z]
    clear z hy
    have e47 : (⟨#[47]⟩ : ByteArray).size = 1 := rfl
    have hs1 := HS1.out
    have hs2 := HS2.out
    have hc1 : (f1 ++ (⟨#[47]⟩ : ByteArray)).size ≤ 7000 := by rw [ByteArray.size_append]; omega
    have hc2 : (f1 ++ (⟨#[47]⟩ : ByteArray) ++ f2).size ≤ 14000 := by rw [ByteArray.size_append]; omega
    go_wp2_with fail
    go_region_with (first
      | (go_at_call_of 49 (Value.int IntKind.i64 p0); refine (REST.out _ ?_).mono ?_
         · exact HQ1.out.drew
         rintro e wa ⟨rfl, hba⟩
         have HQ2 : Hid (Below W0.heap.size W0 wa) := HQ1.out.drew.trans (hba.mono HQ1.out.size)
         have hx := HX.out wa HQ2.out
         have m3 := hx.cell 3
         have m4 := hx.cell 4
         have m5 := hx.cell 5
         simp only [List.getElem?_cons_zero, List.getElem?_cons_succ] at m3 m4 m5
         clear hx hba)
      | (go_at_call_of 49 (Value.int IntKind.i64 q0); refine (REST2.out _ ?_).mono ?_
         · exact HQ2.out
         rintro e wb ⟨rfl, hbb⟩
         have HQ3 : Hid (Below W0.heap.size W0 wb) := HQ2.out.trans (hbb.mono HQ2.out.size)
         clear hbb))
    all_goals
      go_wp2
      go_ret
      exact ⟨by first | rfl | (rw [if_neg HY.out]; rfl), HB0.out.trans (HQ3.out.mono HB0.out.size)⟩
theorem textT_dig (neg : Bool) (t : List Nat) : textT (negOf neg t) t = if 2500 < digC t then strB [] else fullT (negOf neg t) t := by
  unfold textT textS fullT digC
  by_cases h0 : t.length = 0
  · rw [if_pos h0, if_pos h0, if_pos h0, if_neg (by omega)]
  · rw [if_neg h0, if_neg h0, if_neg h0]
theorem digC_ge (t : List Nat) (hok : okL t) (htr : isTrim t) (h : 280 < t.length) : 2500 < digC t := by
  have h1 := textD_ge t hok htr (by intro e; rw [e] at h; simp at h)
  unfold digC
  rw [if_neg (by omega)]
  omega
theorem full_ne (ng : Bool) (t : List Nat) (hok : okL t) (htr : isTrim t) : (fullT ng t).size ≠ 0 := by
  by_cases h0 : t.length = 0
  · unfold fullT; rw [if_pos h0, strB_size]; decide
  · have h1 := textD_ge t hok htr (by intro e; rw [e] at h0; simp at h0)
    rw [fullT_size ng t h0]
    omega
theorem one_len {n : Bool} {t : List Nat} {y : Int} (htr : isTrim t) (e : sg n (val t) = y) (hy : y = 1) : t.length ≤ 1 := by
  have h1 : val t = 1 := by
    have h := congrArg Int.natAbs e
    rw [sg_abs, hy] at h
    exact h
  have h2 : okL [1] := fun x hx => by simp at hx; omega
  have := lenOfLe t [1] htr h2 (by rw [h1]; simp [val])
  simpa using this
/-- What both the size and the digits say, at once. -/
def toldT (y : Int) (n1 n2 : Bool) (t1 t2 : List Nat) : ByteArray := if digC t1 ≤ 2500 ∧ digC t2 ≤ 2500 then if y = 1 then fullT (negOf n1 t1) t1 else fullT (negOf n1 t1) t1 ++ ⟨#[47]⟩ ++ fullT (negOf n2 t2) t2 else ⟨#[]⟩
theorem told_text {x y : Int} {n1 n2 : Bool} {t1 t2 : List Nat} (o1 : okL t1) (r1 : isTrim t1) (e1 : sg n1 (val t1) = x) (o2 : okL t2) (r2 : isTrim t2) (e2 : sg n2 (val t2) = y) : TextR x y (toldT y n1 n2 t1 t2) := by
  have hT1 : IsText x (textT (negOf n1 t1) t1) := ⟨n1, t1, o1, r1, e1, rfl⟩
  have hT2 : IsText y (textT (negOf n2 t2) t2) := ⟨n2, t2, o2, r2, e2, rfl⟩
  have hd1 := textT_dig n1 t1
  have hd2 := textT_dig n2 t2
  unfold TextR toldT
  by_cases hy : y = 1
  · rw [if_pos hy, if_pos hy]
    have hl := one_len r2 e2 hy
    have h2 := digC_le t2
    by_cases d1 : digC t1 ≤ 2500
    · rw [if_pos ⟨d1, by omega⟩]
      rw [if_neg (by omega)] at hd1
      rw [← hd1]; exact hT1
    · rw [if_neg (fun h => d1 h.1)]
      rw [if_pos (by omega)] at hd1
      rw [hd1] at hT1; exact hT1
  · rw [if_neg hy, if_neg hy]
    refine ⟨_, _, hT1, hT2, ?_⟩
    by_cases d1 : digC t1 ≤ 2500
    · rw [if_neg (by omega)] at hd1
      by_cases d2 : digC t2 ≤ 2500
      · rw [if_neg (by omega)] at hd2
        rw [if_pos ⟨d1, d2⟩, hd1, hd2, if_neg (fun h => h.elim (full_ne _ _ o1 r1) (full_ne _ _ o2 r2))]
      · rw [if_pos (by omega)] at hd2
        rw [if_neg (fun h => d2 h.2), if_pos (.inr (by rw [hd2, strB_size]; rfl))]
    · rw [if_pos (by omega)] at hd1
      rw [if_neg (fun h => d1 h.1), if_pos (.inl (by rw [hd1, strB_size]; rfl))]
set_option maxRecDepth 100000 in
set_option maxHeartbeats 1000000 in
theorem l2Told_any (B : Nat) (z : Value) (x y : Int) (w : World) (hBw : B ≤ w.heap.size) (h : IsQN B w z x y) :
    Calls Tryd.prog 15 #[z] w fun e w' => ∃ u, e = .returned (.string u) ∧ TextR x y u ∧ Below w.heap.size w w' := by
  have HQN := hidG h
  obtain ⟨p0, pn, pa, pl, pc, q0, qn, qa, ql, qc, rfl, ⟨n1, t1, hz1, e1, _⟩, n2, t2, hz2, e2, _⟩ := h
  have HT : Hid (TextR x y (toldT y n1 n2 t1 t2)) := told_text hz1.1 hz1.2.1 e1 hz2.1 hz2.2.1 e2
  have hl1 := isZ_len hz1
  have hl2 := isZ_len hz2
  have HG1 : Hid (280 < t1.length → 2500 < digC t1) := digC_ge t1 hz1.1 hz1.2.1
  have HG2 : Hid (280 < t2.length → 2500 < digC t2) := digC_ge t2 hz2.1 hz2.2.1
  have HZ1 := hidG hz1
  have HZ2 := hidG hz2
  have HBW := hidG hBw
  clear hz1 hz2 hBw e1 e2
  obtain ⟨W0, hW0⟩ : ∃ W0, w.alloc (.cells #[.int .i64 p0, .bool pn, .slice pa pl pc, .int .i64 q0, .bool qn, .slice qa ql qc] 40) = W0 := ⟨_, rfl⟩
  have HW0 := hidG hW0
  have HB0 : Hid (Below w.heap.size w W0) := by show Below w.heap.size w W0; rw [← hW0]; exact below_alloc _ _
  have hx1 : Bx W0 w.heap.size [.int .i64 p0, .bool pn, .slice pa pl pc, .int .i64 q0, .bool qn, .slice qa ql qc] := by rw [← hW0]; exact bx_new w _ _
  have HX : Hid (∀ W, Below W0.heap.size W0 W → Bx W w.heap.size [.int .i64 p0, .bool pn, .slice pa pl pc, .int .i64 q0, .bool qn, .slice qa ql qc]) := fun W hW => hx1.below hx1.lt hW
  have k0 := hx1.cell 0
  have k1 := hx1.cell 1
  have k2 := hx1.cell 2
  have k3 := hx1.cell 3
  have k4 := hx1.cell 4
  have k5 := hx1.cell 5
  simp only [List.getElem?_cons_zero, List.getElem?_cons_succ] at k0 k1 k2 k3 k4 k5
  clear hW0 hx1
  unfold maxLen at hl1 hl2
  by_cases hp : 280 < pl
  · have zz : decide (280 < (pl : Int)) = true := by rw [decide_eq_true_iff]; omega
    have HR : Hid (TextR x y ⟨#[]⟩) := by
      have h := HT.out
      unfold toldT at h
      rw [if_neg (fun hh => by have := HG1.out (by omega); omega)] at h
      exact h
    clear hl1 hl2 hp
    go_enter Tryd.func15, Tryd.ntmps15
    go_upto_region 1 with fail
    rw [HW0.out]
    go_wp2
    go_ret
    exact ⟨_, rfl, HR.out, HB0.out⟩
  · have zz : decide (280 < (pl : Int)) = false := by rw [decide_eq_false_iff_not]; omega
    by_cases hq : 280 < ql
    · have zq : decide (280 < (ql : Int)) = true := by rw [decide_eq_true_iff]; omega
      have HR : Hid (TextR x y ⟨#[]⟩) := by
        have h := HT.out
        unfold toldT at h
        rw [if_neg (fun hh => by have := HG2.out (by omega); omega)] at h
        exact h
      clear hl1 hl2 hp hq
      go_enter Tryd.func15, Tryd.ntmps15
      go_upto_region 1 with fail
      rw [HW0.out]
      go_wp2
      go_ret
      exact ⟨_, rfl, HR.out, HB0.out⟩
    · have zq : decide (280 < (ql : Int)) = false := by rw [decide_eq_false_iff_not]; omega
      have hlen1 : t1.length ≤ 600 := by omega
      have hlen2 : t2.length ≤ 600 := by omega
      clear hl1 hl2 hp hq
      go_enter Tryd.func15, Tryd.ntmps15
      go_upto_region 1 with fail
      rw [HW0.out]
      go_wp2_with fail
      refine (l2Fits_any B p0 pn pa pl pc q0 qn qa ql qc n1 n2 t1 t2 W0 (by have := HBW.out; have := HB0.out.size; omega) (HZ1.out.below HB0.out) (HZ2.out.below HB0.out) hlen1 hlen2).mono ?_
      rintro e w1 ⟨rfl, hb1⟩
      have HQ1 := hidG hb1
      have HB1 := hidG (HB0.out.trans (hb1.mono HB0.out.size))
      have hx := HX.out w1 hb1
      clear hb1 k0 k1 k2 k3 k4 k5
      by_cases hd : digC t1 ≤ 2500 ∧ digC t2 ≤ 2500
      · have z2 : decide (digC t1 ≤ 2500 ∧ digC t2 ≤ 2500) = true := decide_eq_true hd
        have HR : Hid (TextR x y (if y = 1 then fullT (negOf n1 t1) t1 else fullT (negOf n1 t1) t1 ++ ⟨#[47]⟩ ++ fullT (negOf n2 t2) t2)) := by
          have h := HT.out
          unfold toldT at h
          rw [if_pos hd] at h
          exact h
        have k0 := hx.cell 0
        have k1 := hx.cell 1
        have k2 := hx.cell 2
        have k3 := hx.cell 3
        have k4 := hx.cell 4
        have k5 := hx.cell 5
        simp only [List.getElem?_cons_zero, List.getElem?_cons_succ] at k0 k1 k2 k3 k4 k5
        rw [z2]
        clear hx hd z2
        go_wp2_with fail
        refine (l2Text_any B p0 pn pa pl pc q0 qn qa ql qc n1 n2 t1 t2 x y w1 (by have := HBW.out; have := HB1.out.size; omega) (HQN.out.below HB1.out) (HZ1.out.below HB1.out) (HZ2.out.below HB1.out) hlen1 hlen2).mono ?_
        rintro e w2 ⟨rfl, hb2⟩
        have HB2 := hidG (HB1.out.trans (hb2.mono HB1.out.size))
        obtain ⟨u, hu⟩ : ∃ u, (if y = 1 then fullT (negOf n1 t1) t1 else fullT (negOf n1 t1) t1 ++ ⟨#[47]⟩ ++ fullT (negOf n2 t2) t2) = u := ⟨_, rfl⟩
        rw [hu] at HR ⊢
        clear hb2 hu k0 k1 k2 k3 k4 k5
        go_wp2
        go_ret
        exact ⟨_, rfl, HR.out, HB2.out⟩
      · have z2 : decide (digC t1 ≤ 2500 ∧ digC t2 ≤ 2500) = false := decide_eq_false hd
        have HR : Hid (TextR x y ⟨#[]⟩) := by
          have h := HT.out
          unfold toldT at h
          rw [if_neg hd] at h
          exact h
        rw [z2]
        clear hx hd z2
        go_wp2
        go_ret
        exact ⟨_, rfl, HR.out, HB1.out⟩
end Go.Proofs.YtpjnglcojamfmaaDoor
