import Derived.Test.YtlphfokcojahlaaDoorGcdSpec
import Derived.Test.YtlphfokcojahlaaDoorRatD
import Derived.Test.YtlphfokcojahlaaDoorRatF
import Derived.Test.YtlphfokcojahlaaDoorRatH
import Derived.Laws.Strings3
import Derived.Test.YtlphfokcojahlaaDoorGcdLaid
import Derived.Test.YtlphfokcojahlaaDoorRows
import Derived.Test.YtlphfokcojahlaaDoorCards
import Derived.Test.YtlphfokcojahlaaDoorTie
import Derived.WalkKit
import Derived.ProofKit
import Derived.OpenShut
import Derived.ShutString
import Derived.ChangeOld
import Derived.ChangeVars
import Derived.Below
import Derived.WalkSmall
import Derived.LaidMore
import Derived.Lay
import Derived.Stop.Joined
import Derived.SevenTiedAt
namespace Go.Proofs.YtlphfokcojahlaaDoor
open Go.ChangeShapes Go.WideShapes Go.ChangeAt Go.RowKit
theorem isN_one {B : Nat} {w : World} {g0 : Int} {gn : Bool} {ga : Option Addr} {gl gc : Nat} {G : Int} (h : IsN B w (.agg #[.int .i64 g0, .bool gn, .slice ga gl gc]) G) : (((gl : Int) == 0) && (g0 == 1)) = decide (G = 1) := by
  obtain ⟨neg, t, ⟨hok, htr, hz⟩, hx⟩ := h
  rcases hz with ⟨h2, v, e, ⟨p, c, rfl, _⟩⟩ | ⟨h2, e⟩
  · simp only [Value.agg.injEq, Array.mk.injEq, List.cons.injEq, Value.slice.injEq, and_true] at e
    have hl : gl = t.length := e.2.2.2.1
    have hne : t ≠ [] := by rintro rfl; simp at h2
    have h3 := val_ge t htr hne
    have h4 : 1000000000 ^ 2 ≤ 1000000000 ^ (t.length - 1) := Nat.pow_le_pow_right (by decide) (by omega)
    have h5 : (1000000000 : Nat) ^ 2 = 1000000000000000000 := by decide
    have hG : G ≠ 1 := by
      rw [← hx]
      cases neg <;> simp [sg] <;> omega
    have hz : ((gl : Int) == 0) = false := by rw [beq_eq_false_iff_ne]; omega
    rw [hz, decide_eq_false hG]
    rfl
  · simp only [Value.agg.injEq, Array.mk.injEq, List.cons.injEq, Value.slice.injEq, Value.int.injEq, and_true, true_and] at e
    have hg : g0 = sg neg (val t) := e.1
    have hl : gl = 0 := e.2.2.2.1
    subst hl hg
    rw [hx]
    by_cases hG : G = 1
    · subst hG; rfl
    · have : (G == 1) = false := by rw [beq_eq_false_iff_ne]; exact hG
      rw [this, decide_eq_false hG]; rfl
theorem isNeg_at (q : ByteArray) (h : 0 < q.size) : ((q[0].toNat : Int) == 45) = isNeg q := by
  unfold isNeg
  have e : (q.extract 0 1).toList = [q[0]] := by
    rw [ByteArray.toList_eq, ByteArray.data_extract, Array.toList_extract]
    show (q.data.toList.drop 0).take (1 - 0) = [q[0]]
    have hl : 0 < q.data.toList.length := by simpa using h
    cases hq : q.data.toList with
    | nil => rw [hq] at hl; simp at hl
    | cons c l =>
      have : q[0] = c := by
        have h1 : q.data.toList[0]? = some q[0] := by rw [List.getElem?_eq_getElem hl]; rfl
        rw [hq] at h1
        simpa using h1.symm
      rw [this]; rfl
  rw [e]
  by_cases hc : q[0] = 45
  · rw [hc]; rfl
  · have h1 : ((q[0].toNat : Int) == 45) = false := by
      rw [beq_eq_false_iff_ne]
      intro e2
      exact hc (UInt8.toNat_inj.1 (by have e3 : (45 : UInt8).toNat = 45 := rfl; omega))
    have h2 : ([q[0]] == [45]) = false := by simp [hc]
    rw [h1, h2]
theorem eqB (a : ByteArray) (c : UInt8) : (a.toList == [c]) = decide (a = strB [c]) := by
  have : (strB [c]).toList = [c] := by rw [ByteArray.toList_eq]; rfl
  have h := toList_inj (a := a) (b := strB [c])
  rw [this] at h
  exact h
set_option maxRecDepth 100000 in
set_option maxHeartbeats 2000000 in
theorem specIsRat_any (s : ByteArray) (w : World) (hs : s.size ≤ maxLen) :
    Calls Tryd.prog 27 #[.string s] w fun e w' => ∃ b, e = .returned (.bool b) ∧ IsRatB s b ∧ Below w.heap.size w w' := by
  obtain ⟨k, hk⟩ := isCut_ex s
  have HK := hidG hk
  clear hk
  cases k with
  | none =>
    go_enter Tryd.func27, Tryd.ntmps27
    go_wp2_with fail
    refine (l2Cut_any s none _ hs HK.out).mono ?_
    rintro e w' ⟨rfl, hw'⟩
    subst hw'
    have e1 : cutI none = -1 := rfl
    rw [e1]
    go_wp2_with fail
    refine (isInt_spec s _ hs).mono ?_
    rintro e w2 ⟨rfl, hw2⟩
    subst hw2
    obtain ⟨b, hb⟩ : ∃ b, isIntB s = b := ⟨_, rfl⟩
    have HB := hidG hb
    rw [hb]
    clear hb
    go_wp2
    go_ret
    refine ⟨_, rfl, ⟨none, HK.out, ?_⟩, Below.refl _ _⟩
    constructor
    · intro e; exact ⟨numT s, 1, HB.out.trans e, rfl, rfl⟩
    · rintro ⟨x, y, h, _⟩; rw [← HB.out]; exact h
  | some i =>
    have hi := isCut_lt HK.out
    have hcp : s.extract 0 i = cutP s (some i) := rfl
    have hcq : s.extract (i + 1) s.size = cutQ s (some i) := rfl
    obtain ⟨p, hp⟩ : ∃ p, cutP s (some i) = p := ⟨_, rfl⟩
    obtain ⟨q, hq⟩ : ∃ q, cutQ s (some i) = q := ⟨_, rfl⟩
    have HPQ : Hid (cutP s (some i) = p ∧ cutQ s (some i) = q) := ⟨hp, hq⟩
    rw [hp] at hcp
    rw [hq] at hcq
    have hps : p.size ≤ maxLen := by rw [← hcp, ByteArray.size_extract]; omega
    have hqs : q.size ≤ maxLen := by rw [← hcq, ByteArray.size_extract]; omega
    have HSZ : Hid (p.size ≤ maxLen ∧ q.size ≤ maxLen) := ⟨hps, hqs⟩
    unfold maxLen at hs
    clear hp hq hps hqs
    go_enter Tryd.func27, Tryd.ntmps27
    go_wp2_with fail
    refine (l2Cut_any s (some i) _ (by unfold maxLen; exact hs) HK.out).mono ?_
    rintro e w' ⟨rfl, hw'⟩
    subst hw'
    have e1 : cutI (some i) = (i : Int) := rfl
    rw [e1]
    have HNOT : Hid ((¬ ∃ x y, RatV s (some i) x y) → IsRatB s false) := fun h => ⟨some i, HK.out, ⟨(fun e => by cases e), fun hx => (h hx).elim⟩⟩
    go_wp2_with fail
    refine (isInt_spec p _ HSZ.out.1).mono ?_
    rintro e w2 ⟨rfl, hw2⟩
    subst hw2
    cases hip : isIntB p
    · have HIP := hidG hip
      clear hip
      have HF : Hid (IsRatB s false) := HNOT.out (fun ⟨x, y, h⟩ => by
        have h1 := h.1.1
        rw [HPQ.out.1, HIP.out] at h1
        cases h1)
      go_wp2
      go_ret
      exact ⟨false, rfl, HF.out, Below.refl _ _⟩
    have HIP := hidG hip
    clear hip
    go_wp2_with fail
    refine (isInt_spec q _ HSZ.out.2).mono ?_
    rintro e w3 ⟨rfl, hw3⟩
    subst hw3
    cases hiq : isIntB q
    · have HIQ := hidG hiq
      clear hiq
      have HF : Hid (IsRatB s false) := HNOT.out (fun ⟨x, y, h⟩ => by
        have h1 := h.1.2
        rw [HPQ.out.2, HIQ.out] at h1
        cases h1)
      go_wp2
      go_ret
      exact ⟨false, rfl, HF.out, Below.refl _ _⟩
    have HIQ := hidG hiq
    clear hiq
    cases hp0 : (p.toList == [48])
    case true =>
      have HP0 := hidG hp0
      have HF : Hid (IsRatB s false) := HNOT.out (fun ⟨x, y, h⟩ => by
        have h1 := h.2.1.2.1
        rw [HPQ.out.1] at h1
        exact h1 (of_decide_eq_true ((eqB p 48).symm.trans HP0.out)))
      go_wp2
      go_ret
      exact ⟨false, rfl, HF.out, Below.refl _ _⟩
    case false =>
    have HP0 := hidG hp0
    cases hq0 : (q.toList == [48])
    case true =>
      have HQ0 := hidG hq0
      have HF : Hid (IsRatB s false) := HNOT.out (fun ⟨x, y, h⟩ => by
        have h1 := h.2.1.1
        rw [HPQ.out.2, of_decide_eq_true ((eqB q 48).symm.trans HQ0.out)] at h1
        exact h1 num_nil)
      go_wp2
      go_ret
      exact ⟨false, rfl, HF.out, Below.refl _ _⟩
    case false =>
    have HQ0 := hidG hq0
    cases hq1 : (q.toList == [49])
    case true =>
      have HQ1 := hidG hq1
      have HF : Hid (IsRatB s false) := HNOT.out (fun ⟨x, y, h⟩ => by
        have h1 := h.2.1.2.2.1
        rw [HPQ.out.2] at h1
        exact h1 (of_decide_eq_true ((eqB q 49).symm.trans HQ1.out)))
      go_wp2
      go_ret
      exact ⟨false, rfl, HF.out, Below.refl _ _⟩
    case false =>
    have HQ1 := hidG hq1
    have hqp : 0 < q.size := Nat.pos_of_ne_zero fun h => text_ne q HIQ.out (ByteArray.ext (by
      have : q.data.size = 0 := h
      rw [Array.eq_empty_of_size_eq_zero this]
      rfl))
    have hat := isNeg_at q hqp
    cases hneg : isNeg q
    case true =>
      have HNG := hidG hneg
      rw [hneg] at hat
      have HF : Hid (IsRatB s false) := HNOT.out (fun ⟨x, y, h⟩ => by
        have h1 := h.2.1.2.2.2.1
        rw [HPQ.out.2, HNG.out] at h1
        cases h1)
      go_wp2
      go_ret
      exact ⟨false, rfl, HF.out, Below.refl _ _⟩
    case false =>
    have HNG := hidG hneg
    rw [hneg] at hat
    clear hneg
    have HLL : Hid ((lim p).length ≤ 100000 ∧ (lim q).length ≤ 100000) := ⟨by have := lim_len' p HIP.out; omega, by have := lim_len' q HIQ.out; omega⟩
    obtain ⟨w0, hw0⟩ : ∃ w0 : World, w0 = w3 := ⟨_, rfl⟩
    have HW0 := hidG hw0
    clear hw0
    go_wp2_with fail
    refine (l1Read_any p _ HIP.out).mono ?_
    rintro e w4 ⟨z1, rfl, hz1, hb4⟩
    have HZ1 : Hid (IsZ w3.heap.size w4 z1 (isNeg p) (lim p)) := hz1
    have HB4 : Hid (Below w3.heap.size w3 w4) := hb4
    clear hz1 hb4
    go_wp2_with fail
    refine (l1Read_any q _ HIQ.out).mono ?_
    rintro e w5 ⟨z2, rfl, hz2, hb5⟩
    have HZ2 : Hid (IsZ w3.heap.size w5 z2 (isNeg q) (lim q)) := hz2.mono HB4.out.size
    have HZ1' : Hid (IsZ w3.heap.size w5 z1 (isNeg p) (lim p)) := HZ1.out.below hb5
    have HB5 : Hid (Below w3.heap.size w3 w5) := HB4.out.trans (hb5.mono HB4.out.size)
    clear hz2 hb5
    go_wp2_with fail
    refine (l1Gcd_any _ z1 z2 _ _ _ _ 100000 _ HB5.out.size HZ1'.out HZ2.out HLL.out.1 HLL.out.2 (Nat.le_refl _)).mono ?_
    rintro e w6 ⟨z3, rfl, hn3, hb6⟩
    obtain ⟨g0, gn, ga, gl, gc, rfl⟩ := hn3.shape
    have HONE := hidG (isN_one hn3)
    have HB6 : Hid (Below w3.heap.size w3 w6) := HB5.out.trans (hb6.mono HB5.out.size)
    obtain ⟨W7, hW7⟩ : ∃ W7, w6.alloc (.cells #[.int .i64 g0, .bool gn, .slice ga gl gc] 35) = W7 := ⟨_, rfl⟩
    have HW7 := hidG hW7
    have hb7 : Below w6.heap.size w6 W7 := by rw [← hW7]; exact below_alloc _ _
    have hgx : Bx W7 w6.heap.size [.int .i64 g0, .bool gn, .slice ga gl gc] := by rw [← hW7]; exact bx_new w6 _ _
    have HB7 : Hid (Below w3.heap.size w3 W7) := HB6.out.trans (hb7.mono HB6.out.size)
    have HGX : Hid (∀ W, Below W7.heap.size W7 W → Bx W w6.heap.size [.int .i64 g0, .bool gn, .slice ga gl gc]) := fun W hW => hgx.below hgx.lt hW
    have k0 := hgx.cell 0
    have k1 := hgx.cell 1
    have k2 := hgx.cell 2
    simp only [List.getElem?_cons_zero, List.getElem?_cons_succ] at k0 k1 k2
    have HRES : Hid (∀ r, decide (gcdI (sg (isNeg p) (val (lim p))) (sg (isNeg q) (val (lim q))) = 1) = r → IsRatB s r) := fun r hr => by
      refine ⟨some i, HK.out, ?_⟩
      rw [← hr, decide_eq_true_eq]
      have hg : gcdI (sg (isNeg p) (val (lim p))) (sg (isNeg q) (val (lim q))) = ((Int.gcd (numT p) (numT q) : Nat) : Int) := rfl
      rw [hg]
      constructor
      · intro h1
        refine ⟨numT p, numT q, ?_⟩
        show (isIntB (cutP s (some i)) = true ∧ isIntB (cutQ s (some i)) = true) ∧ _
        rw [HPQ.out.1, HPQ.out.2]
        refine ⟨⟨HIP.out, HIQ.out⟩, ⟨?_, ?_, ?_, HNG.out, by omega⟩, rfl, rfl⟩
        · intro h2
          have h3 := numT_inj q (strB [48]) HIQ.out (by kernel_rfl) (by rw [h2, num_nil])
          have h4 := (eqB q 48).symm.trans HQ0.out
          exact (of_decide_eq_false h4) h3
        · exact of_decide_eq_false ((eqB p 48).symm.trans HP0.out)
        · exact of_decide_eq_false ((eqB q 49).symm.trans HQ1.out)
      · rintro ⟨x, y, _, ⟨_, _, _, _, h5⟩, _⟩
        rw [HPQ.out.1, HPQ.out.2] at h5
        rw [h5]; rfl
    clear hn3 hb6 hW7 hb7 hgx
    go_upto_region 10 with fail
    rw [HW7.out]
    refine (l1IsSmall_ex g0 gn ga gl gc W7).mono ?_
    rintro e w8 ⟨rfl, hw8⟩
    have hb8 : Below W7.heap.size W7 w8 := by rw [hw8]; exact below_alloc _ _
    have HB8 : Hid (Below w3.heap.size w3 w8) := HB7.out.trans (hb8.mono HB7.out.size)
    have hx8 := HGX.out w8 hb8
    have j0 := hx8.cell 0
    simp only [List.getElem?_cons_zero] at j0
    clear hw8 hb8 hx8 k0 k1 k2
    by_cases hz : gl = 0
    · have z : ((gl : Int) == 0) = true := by rw [beq_iff_eq]; omega
      have HE : Hid ((g0 == 1) = decide (gcdI (sg (isNeg p) (val (lim p))) (sg (isNeg q) (val (lim q))) = 1)) := by
        have h := HONE.out
        rw [z] at h
        exact h
      rw [z]
      go_wp2
      go_ret
      exact ⟨_, rfl, HRES.out _ HE.out.symm, HB8.out⟩
    · have z : ((gl : Int) == 0) = false := by rw [beq_eq_false_iff_ne]; omega
      have HE : Hid (decide (gcdI (sg (isNeg p) (val (lim p))) (sg (isNeg q) (val (lim q))) = 1) = false) := by
        have h := HONE.out
        rw [z] at h
        exact h.symm
      rw [z]
      go_wp2
      go_ret
      exact ⟨_, rfl, HRES.out _ HE.out, HB8.out⟩
end Go.Proofs.YtlphfokcojahlaaDoor
namespace Go.Proofs.YtlphfokcojahlaaDoor
open Go.ChangeShapes Go.WideShapes Go.ChangeAt Go.RowKit
set_option maxRecDepth 100000 in
set_option maxHeartbeats 1000000 in
theorem implIsRat_any (s : ByteArray) (w : World) (hs : s.size ≤ maxLen) (hSP : SP w) (hNS : NS w) (hLT : LT w) :
    Calls Tryd.prog 28 #[.string s] w fun e w' => ∃ b, e = .returned (.bool b) ∧ IsRatB s b ∧ Below w.heap.size w w' := by
  obtain ⟨k, hk⟩ := isCut_ex s
  have HK := hidG hk
  have HSP := hidG hSP
  have HNS := hidG hNS
  have HLT := hidG hLT
  clear hk hSP hNS hLT
  go_enter Tryd.func28, Tryd.ntmps28
  go_wp2_with fail
  refine (readRational_any s k _ hs HK.out HSP.out HNS.out HLT.out).mono ?_
  rintro e w1 ⟨z, ok, rfl, hR, hb1⟩
  have HB1 := hidG hb1
  have HF : Hid (IsRatB s ok) := ⟨k, HK.out, hR.2.1⟩
  obtain ⟨s1, p1, l1, c1, s2, p2, l2, c2, rfl⟩ := hR.1
  clear hR hb1
  go_wp2
  go_ret
  exact ⟨ok, rfl, HF.out, HB1.out.alloc HB1.out.size _⟩
end Go.Proofs.YtlphfokcojahlaaDoor
namespace Go.Proofs.YtlphfokcojahlaaDoor
open Go.ChangeShapes Go.WideShapes Go.ChangeAt Go.RowKit
/-- What both sides of RatFloor answer. -/
def IsResF (s u : ByteArray) : Prop := ∃ k, IsCut s k ∧ ((∃ x y q r, RatV s k x y ∧ IsDiv x y q r ∧ IsText q u) ∨ ((¬ ∃ x y, RatV s k x y) ∧ u = strB []))
theorem ratV_unique {s : ByteArray} {k : Option Nat} {x y x' y' : Int} (h : RatV s k x y) (h' : RatV s k x' y') : x = x' ∧ y = y' := by
  cases k with
  | none => exact ⟨h.2.1.trans h'.2.1.symm, h.2.2.trans h'.2.2.symm⟩
  | some i => exact ⟨h.2.2.1.trans h'.2.2.1.symm, h.2.2.2.trans h'.2.2.2.symm⟩
theorem ratV_pos {s : ByteArray} {k : Option Nat} {x y : Int} (h : RatV s k x y) : 0 < y := by
  cases k with
  | none => rw [h.2.2]; decide
  | some i =>
    have h1 := numT_pos _ h.2.1.2.2.2.1
    have h2 := h.2.1.1
    rw [h.2.2.2]
    omega
theorem IsResF.eq {s u v : ByteArray} (h : IsResF s u) (h' : IsResF s v) : u = v := by
  obtain ⟨k, hk, h⟩ := h
  obtain ⟨m, hm, h'⟩ := h'
  obtain rfl := isCut_unique hk hm
  rcases h with ⟨x, y, q, r, h1, h2, h3⟩ | ⟨h1, h2⟩ <;> rcases h' with ⟨x', y', q', r', h1', h2', h3'⟩ | ⟨h1', h2'⟩
  · obtain ⟨rfl, rfl⟩ := ratV_unique h1 h1'
    obtain ⟨rfl, _⟩ := isDiv_unique h2 h2'
    exact h3.eq h3'
  · exact absurd ⟨x, y, h1⟩ h1'
  · exact absurd ⟨x', y', h1'⟩ h1
  · rw [h2, h2']
set_option maxRecDepth 100000 in
set_option maxHeartbeats 1000000 in
theorem implRatFloor_any (s : ByteArray) (w : World) (hs : s.size ≤ maxLen) (hSP : SP w) (hNS : NS w) (hLT : LT w) :
    Calls Tryd.prog 32 #[.string s] w fun e w' => ∃ u, e = .returned (.string u) ∧ IsResF s u ∧ Below w.heap.size w w' := by
  obtain ⟨k, hk⟩ := isCut_ex s
  have HK := hidG hk
  have HSP := hidG hSP
  have HNS := hidG hNS
  have HLT := hidG hLT
  clear hk hSP hNS hLT
  go_enter Tryd.func32, Tryd.ntmps32
  go_wp2_with fail
  refine (readRational_any s k _ hs HK.out HSP.out HNS.out HLT.out).mono ?_
  rintro e w1 ⟨z, ok, rfl, hR, hb1⟩
  have HB1 := hidG hb1
  have HR := hidG hR
  obtain ⟨s1, p1, l1, c1, s2, p2, l2, c2, rfl⟩ := hR.1
  clear hR hb1
  cases ok
  · have HF : Hid (IsResF s (strB [])) := ⟨k, HK.out, .inr ⟨fun h => Bool.noConfusion (HR.out.2.1.2 h), rfl⟩⟩
    go_wp2
    go_ret
    exact ⟨_, rfl, HF.out, HB1.out.alloc HB1.out.size _⟩
  · obtain ⟨x, y, hV, hQ⟩ := HR.out.2.2 rfl
    have HV := hidG hV
    obtain ⟨W2, hW2⟩ : ∃ W2, w1.alloc (.cells #[.bool s1, .slice p1 l1 c1, .bool s2, .slice p2 l2 c2] 57) = W2 := ⟨_, rfl⟩
    have HW2 := hidG hW2
    have hB2 : Below w1.heap.size w1 W2 := by rw [← hW2]; exact below_alloc _ _
    have HQ2 := hidG (hQ.below hB2)
    have HB2 : Hid (Below w.heap.size w W2) := HB1.out.trans (hB2.mono HB1.out.size)
    have hxb : Bx W2 w1.heap.size [.bool s1, .slice p1 l1 c1, .bool s2, .slice p2 l2 c2] := by rw [← hW2]; exact bx_new w1 _ _
    have k0 := hxb.cell 0
    have k1 := hxb.cell 1
    have k2 := hxb.cell 2
    have k3 := hxb.cell 3
    simp only [List.getElem?_cons_zero, List.getElem?_cons_succ] at k0 k1 k2 k3
    have HYP : Hid (y ≠ 0) := by have := ratV_pos hV; show y ≠ 0; omega
    clear hV hQ hW2 hB2 hxb
    go_upto_region 3 with fail
    go_wp2_with fail
    rw [HW2.out]
    refine (floor_any w.heap.size _ x y 300 _ HB2.out.size HQ2.out (by omega) HYP.out (HSP.out.below HB2.out)).mono ?_
    rintro e w3 ⟨r, q, t, rfl, hq, hdv, hb3⟩
    obtain ⟨s5, p5, l5, c5, rfl⟩ := hq.shape
    have HQ3 := hidG hq
    have HDV := hidG hdv
    have HB3 := hidG (HB2.out.trans (hb3.mono HB2.out.size))
    clear hq hdv hb3 k0 k1 k2 k3
    go_wp2_with fail
    refine (textI_any _ _ q _ _ HQ3.out (by omega) (HLT.out.below HB3.out)).mono ?_
    rintro e w4 ⟨u, rfl, hu, hb4⟩
    have HF : Hid (IsResF s u) := ⟨k, HK.out, .inl ⟨x, y, q, t, HV.out, HDV.out, hu⟩⟩
    have HB4 := hidG (HB3.out.trans (hb4.mono HB3.out.size))
    clear hu hb4
    go_wp2
    go_ret
    exact ⟨_, rfl, HF.out, HB4.out⟩
end Go.Proofs.YtlphfokcojahlaaDoor
namespace Go.Proofs.YtlphfokcojahlaaDoor
open Go.ChangeShapes Go.WideShapes Go.ChangeAt Go.RowKit
/-- The specification's rational number, by value. -/
def IsQN (B : Nat) (w : World) (z : Value) (x y : Int) : Prop := ∃ (p0 : Int) (pn : Bool) (pa : Option Addr) (pl pc : Nat) (q0 : Int) (qn : Bool) (qa : Option Addr) (ql qc : Nat), z = .agg #[.int .i64 p0, .bool pn, .slice pa pl pc, .int .i64 q0, .bool qn, .slice qa ql qc] ∧
  NumZ B w (.agg #[.int .i64 p0, .bool pn, .slice pa pl pc]) x 1000 ∧ NumZ B w (.agg #[.int .i64 q0, .bool qn, .slice qa ql qc]) y 1000
theorem NumZ.keeps {B : Nat} {w W : World} {z : Value} {x : Int} {n : Nat} {g h : Nat} (hl : NumZ B w z x n) (n1 : NoInt w g) (n2 : NoInt w h) (k : Keeps g h w W) : NumZ B W z x n := by
  obtain ⟨neg, t, ⟨hok, htr, hz⟩, hx⟩ := hl
  refine ⟨neg, t, ⟨hok, htr, ?_⟩, hx⟩
  rcases hz with ⟨h2, v, hv, hL⟩ | hz
  · exact .inl ⟨h2, v, hv, hL.keeps n1 n2 k⟩
  · exact .inr hz
theorem NumZ.mono' {B B' : Nat} {w : World} {z : Value} {x : Int} {n n' : Nat} (h : NumZ B w z x n) (hb : B' ≤ B) (hn : n ≤ n') : NumZ B' w z x n' := by
  obtain ⟨neg, t, h1, h2, h3⟩ := h
  exact ⟨neg, t, h1.mono hb, h2, by omega⟩
theorem NumZ.shape' {B : Nat} {w : World} {z : Value} {x : Int} {n : Nat} (h : NumZ B w z x n) : ∃ (z0 : Int) (zn : Bool) (za : Option Addr) (zl zc : Nat), z = .agg #[.int .i64 z0, .bool zn, .slice za zl zc] := by
  obtain ⟨neg, t, h1, _⟩ := h
  exact h1.shape
def W6 (W : World) (g : Nat) (u0 u1 u2 u3 u4 u5 : Value) : World := (((((W.setCell ⟨g, 0, none⟩ u0).setCell ⟨g, 1, none⟩ u1).setCell ⟨g, 2, none⟩ u2).setCell ⟨g, 3, none⟩ u3).setCell ⟨g, 4, none⟩ u4).setCell ⟨g, 5, none⟩ u5
theorem keeps6 (W : World) (g : Nat) (u0 u1 u2 u3 u4 u5 : Value) : Keeps g g W (W6 W g u0 u1 u2 u3 u4 u5) :=
  Keeps.setCell (Keeps.setCell (Keeps.setCell (Keeps.setCell (Keeps.setCell (Keeps.setCell (Keeps.refl g g W) ⟨g, 0, none⟩ u0 (Or.inl rfl)) ⟨g, 1, none⟩ u1 (Or.inl rfl)) ⟨g, 2, none⟩ u2 (Or.inl rfl)) ⟨g, 3, none⟩ u3 (Or.inl rfl)) ⟨g, 4, none⟩ u4 (Or.inl rfl)) ⟨g, 5, none⟩ u5 (Or.inl rfl)
theorem set6 {N : Nat} {w W : World} (h : Below N w W) (g : Nat) (hg : N ≤ g) (u0 u1 u2 u3 u4 u5 : Value) : Below N w (W6 W g u0 u1 u2 u3 u4 u5) :=
  (((((h.setCell (p := ⟨g, 0, none⟩) hg u0).setCell (p := ⟨g, 1, none⟩) hg u1).setCell (p := ⟨g, 2, none⟩) hg u2).setCell (p := ⟨g, 3, none⟩) hg u3).setCell (p := ⟨g, 4, none⟩) hg u4).setCell (p := ⟨g, 5, none⟩) hg u5
theorem Bx.put6 {W : World} {g : Nat} {a b c d e f : Value} (h : Bx W g [a, b, c, d, e, f]) (u0 u1 u2 u3 u4 u5 : Value) : Bx (W6 W g u0 u1 u2 u3 u4 u5) g [u0, u1, u2, u3, u4, u5] := (((((h.set 0 u0).set 1 u1).set 2 u2).set 3 u3).set 4 u4).set 5 u5
set_option maxRecDepth 100000 in
set_option maxHeartbeats 1000000 in
theorem l2OfZ_any (B : Nat) (a0 : Int) (an : Bool) (aa : Option Addr) (al ac : Nat) (x : Int) (w : World) (hBw : B ≤ w.heap.size) (h : NumZ B w (.agg #[.int .i64 a0, .bool an, .slice aa al ac]) x 1000) :
    Calls Tryd.prog 97 #[.agg #[.int .i64 a0, .bool an, .slice aa al ac]] w fun e w' => ∃ z, e = .returned z ∧ IsQN B w' z x 1 ∧ Below w.heap.size w w' := by
  have HN := hidG h
  have HBW := hidG hBw
  clear h hBw
  obtain ⟨W0, hW0⟩ : ∃ W0, (w.alloc (.cells #[.int .i64 a0, .bool an, .slice aa al ac] 35)).alloc (.cells #[.int .i64 0, .bool false, .slice none 0 0, .int .i64 0, .bool false, .slice none 0 0] 62) = W0 := ⟨_, rfl⟩
  have HW0 := hidG hW0
  have HB0 : Hid (Below w.heap.size w W0) := by
    show Below w.heap.size w W0
    rw [← hW0]; exact below_al (below_alloc _ _) _
  have hx1 : Bx W0 w.heap.size [.int .i64 a0, .bool an, .slice aa al ac] := by rw [← hW0]; exact (bx_new w _ _).alloc _
  have hx2 : Bx W0 (w.heap.size + 1) [.int .i64 0, .bool false, .slice none 0 0, .int .i64 0, .bool false, .slice none 0 0] := by
    rw [← hW0]
    have h := bx_new (w.alloc (.cells #[.int .i64 a0, .bool an, .slice aa al ac] 35)) [.int .i64 0, .bool false, .slice none 0 0, .int .i64 0, .bool false, .slice none 0 0] 62
    rw [World.size_alloc] at h
    exact h
  have HX : Hid (∀ W, Below W0.heap.size W0 W → Bx W w.heap.size [.int .i64 a0, .bool an, .slice aa al ac] ∧ Bx W (w.heap.size + 1) [.int .i64 0, .bool false, .slice none 0 0, .int .i64 0, .bool false, .slice none 0 0]) := fun W hW => ⟨hx1.below hx1.lt hW, hx2.below hx2.lt hW⟩
  clear hW0
  have k0 := hx1.cell 0
  have k1 := hx1.cell 1
  have k2 := hx1.cell 2
  simp only [List.getElem?_cons_zero, List.getElem?_cons_succ] at k0 k1 k2
  clear hx1 hx2
  go_enter Tryd.func97, Tryd.ntmps97
  go_upto_region 1 with fail
  rw [HW0.out]
  go_region_with (first
    | (go_at_call 66
       refine (l1Small_any 1 _ (by decide) (by decide)).mono ?_
       rintro e w1 ⟨z, rfl, hz, hb1⟩
       have HB1 : Hid (Below W0.heap.size W0 w1) := (Below.refl _ W0).drew.trans hb1
       obtain ⟨q0, qn, qa, ql, qc, rfl⟩ := hz.shape'
       have HZ : Hid (NumZ W0.heap.size w1 (.agg #[.int .i64 q0, .bool qn, .slice qa ql qc]) 1 3) := hz
       obtain ⟨hy1, hy2⟩ := HX.out w1 HB1.out
       have j0 := hy1.cell 0
       have j1 := hy1.cell 1
       have j2 := hy1.cell 2
       have r0 := hy2.cell 0
       have r1 := hy2.cell 1
       have r2 := hy2.cell 2
       have r3 := hy2.cell 3
       have r4 := hy2.cell 4
       have r5 := hy2.cell 5
       simp only [List.getElem?_cons_zero, List.getElem?_cons_succ] at j0 j1 j2 r0 r1 r2 r3 r4 r5
       have f0 := hy2.frozen 0
       have f1 := hy2.frozen 1
       have f2 := hy2.frozen 2
       have f3 := hy2.frozen 3
       have f4 := hy2.frozen 4
       have f5 := hy2.frozen 5
       clear hz hb1 hy1 hy2))
  all_goals
    try simp only [List.getElem_toArray, List.getElem_cons_succ, List.getElem_cons_zero, Act.put, List.setIfInBounds_toArray, List.set_cons_succ, List.set_cons_zero]
    go_wp2
    have hbw := (HX.out w1 HB1.out).2
    have hnR : NoInt w1 (w.heap.size + 1) := noInt_of hbw (by simp)
    have hk := keeps6 w1 (w.heap.size + 1) (.int .i64 a0) (.bool an) (.slice aa al ac) (.int .i64 q0) (.bool qn) (.slice qa ql qc)
    have hP9 := (HN.out.below (HB0.out.trans (HB1.out.mono HB0.out.size))).keeps hnR hnR hk
    have hQ9 := (HZ.out.mono' (B' := B) (n' := 1000) (by have := HBW.out; have := HB0.out.size; omega) (by omega)).keeps hnR hnR hk
    have hB9 := set6 (HB0.out.trans (HB1.out.mono HB0.out.size)) (w.heap.size + 1) (Nat.le_succ _) (.int .i64 a0) (.bool an) (.slice aa al ac) (.int .i64 q0) (.bool qn) (.slice qa ql qc)
    have hZ := hbw.put6 (.int .i64 a0) (.bool an) (.slice aa al ac) (.int .i64 q0) (.bool qn) (.slice qa ql qc)
    have hWW : (((((w1.setCell ⟨w.heap.size + 1, 0, none⟩ (.int .i64 a0)).setCell ⟨w.heap.size + 1, 1, none⟩ (.bool an)).setCell ⟨w.heap.size + 1, 2, none⟩ (.slice aa al ac)).setCell ⟨w.heap.size + 1, 3, none⟩ (.int .i64 q0)).setCell ⟨w.heap.size + 1, 4, none⟩ (.bool qn)).setCell ⟨w.heap.size + 1, 5, none⟩ (.slice qa ql qc) = W6 w1 (w.heap.size + 1) (.int .i64 a0) (.bool an) (.slice aa al ac) (.int .i64 q0) (.bool qn) (.slice qa ql qc) := rfl
    rw [hWW]
    generalize W6 w1 (w.heap.size + 1) (.int .i64 a0) (.bool an) (.slice aa al ac) (.int .i64 q0) (.bool qn) (.slice qa ql qc) = W9 at *
    have m0 := hZ.cell 0
    have m1 := hZ.cell 1
    have m2 := hZ.cell 2
    have m3 := hZ.cell 3
    have m4 := hZ.cell 4
    have m5 := hZ.cell 5
    simp only [List.getElem?_cons_zero, List.getElem?_cons_succ] at m0 m1 m2 m3 m4 m5
    refine bodyPost_ret (v := .agg #[.int .i64 a0, .bool an, .slice aa al ac, .int .i64 q0, .bool qn, .slice qa ql qc]) ?_ rfl ⟨_, rfl, ⟨a0, an, aa, al, ac, q0, qn, qa, ql, qc, rfl, hP9, hQ9⟩, hB9⟩
    simp [results, Tryd.results97, go_sem, m0, m1, m2, m3, m4, m5]
end Go.Proofs.YtlphfokcojahlaaDoor
namespace Go.Proofs.YtlphfokcojahlaaDoor
open Go.ChangeShapes Go.WideShapes Go.ChangeAt Go.RowKit
theorem numZ_read (B : Nat) (w : World) (z : Value) (p : ByteArray) (hp : isIntB p = true) (h : IsZ B w z (isNeg p) (lim p)) : NumZ B w z (numT p) 1000 :=
  ⟨_, _, h, rfl, by have := lim_len' p hp; omega⟩
set_option maxRecDepth 100000 in
set_option maxHeartbeats 1000000 in
theorem l2Read_any (s : ByteArray) (k : Option Nat) (x y : Int) (w : World) (hs : s.size ≤ maxLen) (hk : IsCut s k) (hV : RatV s k x y) :
    Calls Tryd.prog 63 #[.string s] w fun e w' => ∃ z, e = .returned z ∧ IsQN w.heap.size w' z x y ∧ Below w.heap.size w w' := by
  have HK := hidG hk
  have HV := hidG hV
  clear hk hV
  obtain ⟨W0, hW0⟩ : ∃ W0, w.alloc (.cells #[.int .i64 0, .bool false, .slice none 0 0, .int .i64 0, .bool false, .slice none 0 0] 62) = W0 := ⟨_, rfl⟩
  have HW0 := hidG hW0
  have HB0 : Hid (Below w.heap.size w W0) := by show Below w.heap.size w W0; rw [← hW0]; exact below_alloc _ _
  have hx1 : Bx W0 w.heap.size [.int .i64 0, .bool false, .slice none 0 0, .int .i64 0, .bool false, .slice none 0 0] := by rw [← hW0]; exact bx_new w _ _
  have HX : Hid (∀ W, Below W0.heap.size W0 W → Bx W w.heap.size [.int .i64 0, .bool false, .slice none 0 0, .int .i64 0, .bool false, .slice none 0 0]) := fun W hW => hx1.below hx1.lt hW
  clear hW0 hx1
  cases k with
  | none =>
    go_enter Tryd.func63, Tryd.ntmps63
    go_wp2_with fail
    rw [HW0.out]
    refine (l2Cut_any s none _ hs HK.out).mono ?_
    rintro e w1 ⟨rfl, hw1⟩
    subst hw1
    have e1 : cutI none = -1 := rfl
    rw [e1]
    go_wp2_with fail
    refine (l1Read_any s _ HV.out.1).mono ?_
    rintro e w2 ⟨z1, rfl, hz1, hb2⟩
    have hn1 := numZ_read _ _ _ s HV.out.1 hz1
    obtain ⟨a0, an, aa, al, ac, rfl⟩ := hn1.shape'
    have HN1 := hidG hn1
    have HB2 := hidG hb2
    clear hz1 hn1 hb2
    go_wp2_with fail
    refine (l2OfZ_any _ a0 an aa al ac (numT s) _ HB2.out.size HN1.out).mono ?_
    rintro e w3 ⟨z, rfl, hq, hb3⟩
    obtain ⟨p0, pn, pa, pl, pc, q0, qn, qa, ql, qc, rfl, hP, hQ⟩ := hq
    have HB3 := hidG (HB2.out.trans (hb3.mono HB2.out.size))
    have HPQ : Hid (NumZ w.heap.size w3 (.agg #[.int .i64 p0, .bool pn, .slice pa pl pc]) x 1000 ∧ NumZ w.heap.size w3 (.agg #[.int .i64 q0, .bool qn, .slice qa ql qc]) y 1000) := by
      rw [HV.out.2.1, HV.out.2.2]
      exact ⟨hP.mono' HB0.out.size (Nat.le_refl _), hQ.mono' HB0.out.size (Nat.le_refl _)⟩
    have hbw := HX.out w3 HB3.out
    have r0 := hbw.cell 0
    have r1 := hbw.cell 1
    have r2 := hbw.cell 2
    have r3 := hbw.cell 3
    have r4 := hbw.cell 4
    have r5 := hbw.cell 5
    simp only [List.getElem?_cons_zero, List.getElem?_cons_succ] at r0 r1 r2 r3 r4 r5
    have f0 := hbw.frozen 0
    have f1 := hbw.frozen 1
    have f2 := hbw.frozen 2
    have f3 := hbw.frozen 3
    have f4 := hbw.frozen 4
    have f5 := hbw.frozen 5
    clear hP hQ hb3 hbw
    go_wp2
    have hbw := HX.out w3 HB3.out
    have hnR : NoInt w3 w.heap.size := noInt_of hbw (by simp)
    have hk := keeps6 w3 w.heap.size (.int .i64 p0) (.bool pn) (.slice pa pl pc) (.int .i64 q0) (.bool qn) (.slice qa ql qc)
    have hP9 := HPQ.out.1.keeps hnR hnR hk
    have hQ9 := HPQ.out.2.keeps hnR hnR hk
    have hB9 := set6 (HB0.out.trans (HB3.out.mono HB0.out.size)) w.heap.size (Nat.le_refl _) (.int .i64 p0) (.bool pn) (.slice pa pl pc) (.int .i64 q0) (.bool qn) (.slice qa ql qc)
    have hZ := hbw.put6 (.int .i64 p0) (.bool pn) (.slice pa pl pc) (.int .i64 q0) (.bool qn) (.slice qa ql qc)
    have hWW : (((((w3.setCell ⟨w.heap.size, 0, none⟩ (.int .i64 p0)).setCell ⟨w.heap.size, 1, none⟩ (.bool pn)).setCell ⟨w.heap.size, 2, none⟩ (.slice pa pl pc)).setCell ⟨w.heap.size, 3, none⟩ (.int .i64 q0)).setCell ⟨w.heap.size, 4, none⟩ (.bool qn)).setCell ⟨w.heap.size, 5, none⟩ (.slice qa ql qc) = W6 w3 w.heap.size (.int .i64 p0) (.bool pn) (.slice pa pl pc) (.int .i64 q0) (.bool qn) (.slice qa ql qc) := rfl
    rw [hWW]
    generalize W6 w3 w.heap.size (.int .i64 p0) (.bool pn) (.slice pa pl pc) (.int .i64 q0) (.bool qn) (.slice qa ql qc) = W9 at *
    have m0 := hZ.cell 0
    have m1 := hZ.cell 1
    have m2 := hZ.cell 2
    have m3 := hZ.cell 3
    have m4 := hZ.cell 4
    have m5 := hZ.cell 5
    simp only [List.getElem?_cons_zero, List.getElem?_cons_succ] at m0 m1 m2 m3 m4 m5
    refine bodyPost_ret (v := .agg #[.int .i64 p0, .bool pn, .slice pa pl pc, .int .i64 q0, .bool qn, .slice qa ql qc]) ?_ rfl ⟨_, rfl, ⟨p0, pn, pa, pl, pc, q0, qn, qa, ql, qc, rfl, hP9, hQ9⟩, hB9⟩
    simp [results, Tryd.results63, go_sem, m0, m1, m2, m3, m4, m5]
  | some i =>
    have hi := isCut_lt HK.out
    have c1 : (0 : Int) ≤ (i : Int) := by omega
    have c2 : (i : Int) ≤ (s.size : Int) := by omega
    have c3 : (0 : Int) ≤ (i : Int) + 1 := by omega
    have c4 : (i : Int) + 1 ≤ (s.size : Int) := by omega
    have hcp : s.extract 0 i = cutP s (some i) := rfl
    have hcq : s.extract (i + 1) s.size = cutQ s (some i) := rfl
    obtain ⟨p, hp⟩ : ∃ p, cutP s (some i) = p := ⟨_, rfl⟩
    obtain ⟨q, hq⟩ : ∃ q, cutQ s (some i) = q := ⟨_, rfl⟩
    have HPQ : Hid (cutP s (some i) = p ∧ cutQ s (some i) = q) := ⟨hp, hq⟩
    rw [hp] at hcp
    rw [hq] at hcq
    have HII : Hid ((isIntB p = true ∧ isIntB q = true) ∧ x = numT p ∧ y = numT q) := by
      obtain ⟨h1, _, h2, h3⟩ := HV.out
      rw [hp, hq] at h1
      rw [hp] at h2
      rw [hq] at h3
      exact ⟨h1, h2, h3⟩
    unfold maxLen at hs
    clear hp hq
    have hwr : IntKind.i64.wrap ((i : Int) + 1) = (i : Int) + 1 := wrap_id _ (by omega) (by omega)
    have hSL : ∀ W, (Instr.slice 9 (.string s) (some (.int .i64 ((i : Int) + 1))) none none).run Tryd.prog W = .ok (.string q) W := fun W => by
      rw [run_slice_string_from_if W 9 s .i64 _ Tryd.underlying9, if_pos ⟨c3, c4⟩, show ((i : Int) + 1).toNat = i + 1 by omega, hcq]
    go_enter Tryd.func63, Tryd.ntmps63
    go_wp2_with fail
    rw [HW0.out]
    refine (l2Cut_any s (some i) _ (by unfold maxLen; exact hs) HK.out).mono ?_
    rintro e w1 ⟨rfl, hw1⟩
    subst hw1
    have e1 : cutI (some i) = (i : Int) := rfl
    rw [e1]
    go_wp2_with fail
    go_region_with (first
      | (go_at_call_of 36 (Value.string p)
         refine (l1Read_any p _ HII.out.1.1).mono ?_
         rintro e w2 ⟨z1, rfl, hz1, hb2⟩
         have hn1 := numZ_read _ _ _ p HII.out.1.1 hz1
         obtain ⟨p0, pn, pa, pl, pc, rfl⟩ := hn1.shape'
         have HN1 := hidG hn1
         have HB2 : Hid (Below w1.heap.size w1 w2) := (Below.refl _ w1).drew.trans hb2
         clear hz1 hn1 hb2)
      | (go_at_call_of 36 (Value.string q)
         refine (l1Read_any q _ HII.out.1.2).mono ?_
         rintro e w3 ⟨z2, rfl, hz2, hb3⟩
         have hn2 := numZ_read _ _ _ q HII.out.1.2 hz2
         obtain ⟨q0, qn, qa, ql, qc, rfl⟩ := hn2.shape'
         have HPQ : Hid (NumZ w.heap.size w3 (.agg #[.int .i64 p0, .bool pn, .slice pa pl pc]) x 1000 ∧ NumZ w.heap.size w3 (.agg #[.int .i64 q0, .bool qn, .slice qa ql qc]) y 1000) := by
           rw [HII.out.2.1, HII.out.2.2]
           exact ⟨(HN1.out.below hb3).mono' HB0.out.size (Nat.le_refl _), hn2.mono' (Nat.le_trans HB0.out.size HB2.out.size) (Nat.le_refl _)⟩
         have HB3 := hidG (HB2.out.trans (hb3.mono HB2.out.size))
         have hbw := HX.out w3 HB3.out
         have r0 := hbw.cell 0
         have r1 := hbw.cell 1
         have r2 := hbw.cell 2
         have r3 := hbw.cell 3
         have r4 := hbw.cell 4
         have r5 := hbw.cell 5
         simp only [List.getElem?_cons_zero, List.getElem?_cons_succ] at r0 r1 r2 r3 r4 r5
         have f0 := hbw.frozen 0
         have f1 := hbw.frozen 1
         have f2 := hbw.frozen 2
         have f3 := hbw.frozen 3
         have f4 := hbw.frozen 4
         have f5 := hbw.frozen 5
         clear hz2 hn2 hb3 hbw))
    all_goals
      try simp only [List.getElem_toArray, List.getElem_cons_succ, List.getElem_cons_zero, Act.put, List.setIfInBounds_toArray, List.set_cons_succ, List.set_cons_zero]
      go_wp2
      have hbw := HX.out w3 HB3.out
      have hnR : NoInt w3 w.heap.size := noInt_of hbw (by simp)
      have hk := keeps6 w3 w.heap.size (.int .i64 p0) (.bool pn) (.slice pa pl pc) (.int .i64 q0) (.bool qn) (.slice qa ql qc)
      have hP9 := HPQ.out.1.keeps hnR hnR hk
      have hQ9 := HPQ.out.2.keeps hnR hnR hk
      have hB9 := set6 (HB0.out.trans (HB3.out.mono HB0.out.size)) w.heap.size (Nat.le_refl _) (.int .i64 p0) (.bool pn) (.slice pa pl pc) (.int .i64 q0) (.bool qn) (.slice qa ql qc)
      have hZ := hbw.put6 (.int .i64 p0) (.bool pn) (.slice pa pl pc) (.int .i64 q0) (.bool qn) (.slice qa ql qc)
      have hWW : (((((w3.setCell ⟨w.heap.size, 0, none⟩ (.int .i64 p0)).setCell ⟨w.heap.size, 1, none⟩ (.bool pn)).setCell ⟨w.heap.size, 2, none⟩ (.slice pa pl pc)).setCell ⟨w.heap.size, 3, none⟩ (.int .i64 q0)).setCell ⟨w.heap.size, 4, none⟩ (.bool qn)).setCell ⟨w.heap.size, 5, none⟩ (.slice qa ql qc) = W6 w3 w.heap.size (.int .i64 p0) (.bool pn) (.slice pa pl pc) (.int .i64 q0) (.bool qn) (.slice qa ql qc) := rfl
      rw [hWW]
      generalize W6 w3 w.heap.size (.int .i64 p0) (.bool pn) (.slice pa pl pc) (.int .i64 q0) (.bool qn) (.slice qa ql qc) = W9 at *
      have m0 := hZ.cell 0
      have m1 := hZ.cell 1
      have m2 := hZ.cell 2
      have m3 := hZ.cell 3
      have m4 := hZ.cell 4
      have m5 := hZ.cell 5
      simp only [List.getElem?_cons_zero, List.getElem?_cons_succ] at m0 m1 m2 m3 m4 m5
      refine bodyPost_ret (v := .agg #[.int .i64 p0, .bool pn, .slice pa pl pc, .int .i64 q0, .bool qn, .slice qa ql qc]) ?_ rfl ⟨_, rfl, ⟨p0, pn, pa, pl, pc, q0, qn, qa, ql, qc, rfl, hP9, hQ9⟩, hB9⟩
      simp [results, Tryd.results63, go_sem, m0, m1, m2, m3, m4, m5]
end Go.Proofs.YtlphfokcojahlaaDoor
namespace Go.Proofs.YtlphfokcojahlaaDoor
open Go.ChangeShapes Go.WideShapes Go.ChangeAt Go.RowKit
theorem NumZ.isN {B : Nat} {w : World} {z : Value} {x : Int} {n : Nat} (h : NumZ B w z x n) : IsN B w z x := by
  obtain ⟨neg, t, h1, h2, _⟩ := h
  exact ⟨neg, t, h1, h2⟩
set_option maxRecDepth 100000 in
set_option maxHeartbeats 1000000 in
theorem l2Whole_any (B : Nat) (z : Value) (x y : Int) (w : World) (_hBw : B ≤ w.heap.size) (h : IsQN B w z x y) :
    Calls Tryd.prog 96 #[z] w fun e w' => e = .returned (.bool (decide (y = 1))) ∧ Below w.heap.size w w' := by
  obtain ⟨p0, pn, pa, pl, pc, q0, qn, qa, ql, qc, rfl, hP, hQ⟩ := h
  have HONE := hidG (isN_one hQ.isN)
  clear hP hQ
  obtain ⟨W0, hW0⟩ : ∃ W0, w.alloc (.cells #[.int .i64 p0, .bool pn, .slice pa pl pc, .int .i64 q0, .bool qn, .slice qa ql qc] 62) = W0 := ⟨_, rfl⟩
  have HW0 := hidG hW0
  have HB0 : Hid (Below w.heap.size w W0) := by show Below w.heap.size w W0; rw [← hW0]; exact below_alloc _ _
  have hx1 : Bx W0 w.heap.size [.int .i64 p0, .bool pn, .slice pa pl pc, .int .i64 q0, .bool qn, .slice qa ql qc] := by rw [← hW0]; exact bx_new w _ _
  have HX : Hid (∀ W, Below W0.heap.size W0 W → Bx W w.heap.size [.int .i64 p0, .bool pn, .slice pa pl pc, .int .i64 q0, .bool qn, .slice qa ql qc]) := fun W hW => hx1.below hx1.lt hW
  have k3 := hx1.cell 3
  have k4 := hx1.cell 4
  have k5 := hx1.cell 5
  simp only [List.getElem?_cons_zero, List.getElem?_cons_succ] at k3 k4 k5
  clear hW0 hx1
  go_enter Tryd.func96, Tryd.ntmps96
  go_upto_region 1 with fail
  rw [HW0.out]
  go_wp2_with fail
  refine (l1IsSmall_ex q0 qn qa ql qc W0).mono ?_
  rintro e w1 ⟨rfl, hw1⟩
  have hb1 : Below W0.heap.size W0 w1 := by rw [hw1]; exact below_alloc _ _
  have HB1 : Hid (Below w.heap.size w w1) := HB0.out.trans (hb1.mono HB0.out.size)
  have hx := HX.out w1 hb1
  have j3 := hx.cell 3
  simp only [List.getElem?_cons_zero, List.getElem?_cons_succ] at j3
  clear hw1 hb1 hx k3 k4 k5
  by_cases hz : ql = 0
  · have z : ((ql : Int) == 0) = true := by rw [beq_iff_eq]; omega
    have HE : Hid ((q0 == 1) = decide (y = 1)) := by have h := HONE.out; rw [z] at h; exact h
    rw [z]
    go_wp2
    go_ret
    exact ⟨ret_bool HE.out, HB1.out⟩
  · have z : ((ql : Int) == 0) = false := by rw [beq_eq_false_iff_ne]; omega
    have HE : Hid (false = decide (y = 1)) := by have h := HONE.out; rw [z] at h; exact h
    rw [z]
    go_wp2
    go_ret
    exact ⟨ret_bool HE.out, HB1.out⟩
set_option maxRecDepth 100000 in
set_option maxHeartbeats 1000000 in
theorem l2Floor_any (B : Nat) (z : Value) (x y : Int) (w : World) (hBw : B ≤ w.heap.size) (h : IsQN B w z x y) (hy : y ≠ 0) :
    Calls Tryd.prog 62 #[z] w fun e w' => ∃ z' q r, e = .returned z' ∧ IsN B w' z' q ∧ IsDiv x y q r ∧ Below w.heap.size w w' := by
  have HQN := hidG h
  obtain ⟨p0, pn, pa, pl, pc, q0, qn, qa, ql, qc, rfl, hP, hQ⟩ := h
  have HP := hidG hP
  have HQ := hidG hQ
  have HBW := hidG hBw
  clear hP hQ hBw
  obtain ⟨W0, hW0⟩ : ∃ W0, (w.alloc (.cells #[.int .i64 p0, .bool pn, .slice pa pl pc, .int .i64 q0, .bool qn, .slice qa ql qc] 62)).alloc (.cells #[.int .i64 0, .bool false, .slice none 0 0] 35) = W0 := ⟨_, rfl⟩
  have HW0 := hidG hW0
  have HB0 : Hid (Below w.heap.size w W0) := by
    show Below w.heap.size w W0
    rw [← hW0]; exact below_al (below_alloc _ _) _
  have hx1 : Bx W0 w.heap.size [.int .i64 p0, .bool pn, .slice pa pl pc, .int .i64 q0, .bool qn, .slice qa ql qc] := by rw [← hW0]; exact (bx_new w _ _).alloc _
  have hx2 : Bx W0 (w.heap.size + 1) [.int .i64 0, .bool false, .slice none 0 0] := by
    rw [← hW0]
    have h := bx_new (w.alloc (.cells #[.int .i64 p0, .bool pn, .slice pa pl pc, .int .i64 q0, .bool qn, .slice qa ql qc] 62)) [.int .i64 0, .bool false, .slice none 0 0] 35
    rw [World.size_alloc] at h
    exact h
  have HX : Hid (∀ W, Below W0.heap.size W0 W → Bx W w.heap.size [.int .i64 p0, .bool pn, .slice pa pl pc, .int .i64 q0, .bool qn, .slice qa ql qc] ∧ Bx W (w.heap.size + 1) [.int .i64 0, .bool false, .slice none 0 0]) := fun W hW => ⟨hx1.below hx1.lt hW, hx2.below hx2.lt hW⟩
  have k0 := hx1.cell 0
  have k1 := hx1.cell 1
  have k2 := hx1.cell 2
  have k3 := hx1.cell 3
  have k4 := hx1.cell 4
  have k5 := hx1.cell 5
  simp only [List.getElem?_cons_zero, List.getElem?_cons_succ] at k0 k1 k2 k3 k4 k5
  clear hW0 hx1 hx2
  go_enter Tryd.func62, Tryd.ntmps62
  go_upto_region 1 with fail
  rw [HW0.out]
  go_wp2_with fail
  have hQ0 : IsQN B W0 (.agg #[.int .i64 p0, .bool pn, .slice pa pl pc, .int .i64 q0, .bool qn, .slice qa ql qc]) x y := ⟨p0, pn, pa, pl, pc, q0, qn, qa, ql, qc, rfl, HP.out.below HB0.out, HQ.out.below HB0.out⟩
  refine (l2Whole_any B _ x y W0 (by have := HBW.out; have := HB0.out.size; omega) hQ0).mono ?_
  rintro e w1 ⟨rfl, hb1⟩
  have HB1 := hidG hb1
  have HBW1 := hidG (HB0.out.trans (hb1.mono HB0.out.size))
  obtain ⟨hb, hb2⟩ := HX.out w1 hb1
  clear k0 k1 k2 k3 k4 k5 hQ0
  have k0 := hb.cell 0
  have k1 := hb.cell 1
  have k2 := hb.cell 2
  have k3 := hb.cell 3
  have k4 := hb.cell 4
  have k5 := hb.cell 5
  simp only [List.getElem?_cons_zero, List.getElem?_cons_succ] at k0 k1 k2 k3 k4 k5
  have r0 := hb2.cell 0
  have r1 := hb2.cell 1
  have r2 := hb2.cell 2
  simp only [List.getElem?_cons_zero, List.getElem?_cons_succ] at r0 r1 r2
  have f0 := hb2.frozen 0
  have f1 := hb2.frozen 1
  have f2 := hb2.frozen 2
  clear hb1 hb hb2
  by_cases h1 : y = 1
  · have hd : decide (y = 1) = true := decide_eq_true h1
    have HDV : Hid (IsDiv x y x 0) := by
      show IsDiv x y x 0
      rw [h1]; exact ⟨by omega, by decide, by decide⟩
    have HP1 := hidG (HP.out.below HBW1.out).isN
    rw [hd]
    clear hd
    go_wp2
    have hbw := (HX.out w1 HB1.out).2
    have hnR : NoInt w1 (w.heap.size + 1) := noInt_of hbw (by simp)
    have hN9 := HP1.out.keeps hnR hnR (Keeps.three w1 (w.heap.size + 1) (.int .i64 p0) (.bool pn) (.slice pa pl pc))
    have hB9 := belowSet3 (HB0.out.trans (HB1.out.mono HB0.out.size)) (w.heap.size + 1) (Nat.le_succ _) (.int .i64 p0) (.bool pn) (.slice pa pl pc)
    have hZ : Bx (((w1.setCell ⟨w.heap.size + 1, 0, none⟩ (.int .i64 p0)).setCell ⟨w.heap.size + 1, 1, none⟩ (.bool pn)).setCell ⟨w.heap.size + 1, 2, none⟩ (.slice pa pl pc)) (w.heap.size + 1) [.int .i64 p0, .bool pn, .slice pa pl pc] := ((hbw.set 0 _).set 1 _).set 2 _
    generalize ((w1.setCell ⟨w.heap.size + 1, 0, none⟩ (.int .i64 p0)).setCell ⟨w.heap.size + 1, 1, none⟩ (.bool pn)).setCell ⟨w.heap.size + 1, 2, none⟩ (.slice pa pl pc) = W9 at *
    have m0 := hZ.cell 0
    have m1 := hZ.cell 1
    have m2 := hZ.cell 2
    simp only [List.getElem?_cons_zero, List.getElem?_cons_succ] at m0 m1 m2
    refine bodyPost_ret (v := .agg #[.int .i64 p0, .bool pn, .slice pa pl pc]) ?_ rfl ⟨_, x, 0, rfl, hN9, HDV.out, hB9⟩
    simp [results, Tryd.results62, go_sem, m0, m1, m2]
  · have hd : decide (y = 1) = false := decide_eq_false h1
    rw [hd]
    clear hd
    obtain ⟨ng1, t1, hz1, e1, hl1⟩ := HP.out.below HBW1.out
    obtain ⟨ng2, t2, hz2, e2, hl2⟩ := HQ.out.below HBW1.out
    have HZZ : Hid (IsZ B w1 (.agg #[.int .i64 p0, .bool pn, .slice pa pl pc]) ng1 t1 ∧ IsZ B w1 (.agg #[.int .i64 q0, .bool qn, .slice qa ql qc]) ng2 t2) := ⟨hz1, hz2⟩
    have HEE : Hid (sg ng1 (val t1) = x ∧ sg ng2 (val t2) = y) := ⟨e1, e2⟩
    clear hz1 hz2 e1 e2 r0 r1 r2 f0 f1 f2
    go_wp2_with fail
    refine (l1Div_any B _ _ ng1 ng2 t1 t2 _ (by have := HBW.out; have := HBW1.out.size; omega) HZZ.out.1 HZZ.out.2 (by omega) (by omega) (fun h => hy (by rw [← HEE.out.2, h]; cases ng2 <;> rfl))).mono ?_
    rintro e w2 ⟨z1, z2, q, r, rfl, ⟨hq, hr⟩, hdv, hb2⟩
    rw [HEE.out.1, HEE.out.2] at hdv
    have HDV := hidG hdv
    obtain ⟨a0, an, aa, al, ac, rfl⟩ := hq.shape
    obtain ⟨b0, bn, ba, bl, bc, rfl⟩ := hr.shape
    obtain ⟨W3, hW3⟩ : ∃ W3, (w2.alloc (.cells #[.int .i64 a0, .bool an, .slice aa al ac] 35)).alloc (.cells #[.int .i64 b0, .bool bn, .slice ba bl bc] 35) = W3 := ⟨_, rfl⟩
    have HW3 := hidG hW3
    have hB3 : Below w2.heap.size w2 W3 := by rw [← hW3]; exact below_al (below_alloc _ _) _
    have hq3 : Bx W3 w2.heap.size [.int .i64 a0, .bool an, .slice aa al ac] := by rw [← hW3]; exact (bx_new w2 _ _).alloc _
    have HB3 : Hid (Below W0.heap.size W0 W3) := HB1.out.trans ((hb2.trans (hB3.mono hb2.size)).mono HB1.out.size)
    have HQ3 : Hid (IsN B W3 (.agg #[.int .i64 a0, .bool an, .slice aa al ac]) q) := (hq.below hB3).mono (by have := HBW.out; have := HBW1.out.size; omega)
    have g0 := hq3.cell 0
    have g1 := hq3.cell 1
    have g2 := hq3.cell 2
    simp only [List.getElem?_cons_zero, List.getElem?_cons_succ] at g0 g1 g2
    have hb2 := (HX.out W3 HB3.out).2
    have r0 := hb2.cell 0
    have r1 := hb2.cell 1
    have r2 := hb2.cell 2
    simp only [List.getElem?_cons_zero, List.getElem?_cons_succ] at r0 r1 r2
    have f0 := hb2.frozen 0
    have f1 := hb2.frozen 1
    have f2 := hb2.frozen 2
    clear hq hr hdv hW3 hB3 hq3 hb2 k0 k1 k2 k3 k4 k5
    go_upto_region 4 with fail
    rw [HW3.out]
    go_wp2
    have hbw := (HX.out W3 HB3.out).2
    have hnR : NoInt W3 (w.heap.size + 1) := noInt_of hbw (by simp)
    have hN9 := HQ3.out.keeps hnR hnR (Keeps.three W3 (w.heap.size + 1) (.int .i64 a0) (.bool an) (.slice aa al ac))
    have hB9 := belowSet3 (HB0.out.trans (HB3.out.mono HB0.out.size)) (w.heap.size + 1) (Nat.le_succ _) (.int .i64 a0) (.bool an) (.slice aa al ac)
    have hZ : Bx (((W3.setCell ⟨w.heap.size + 1, 0, none⟩ (.int .i64 a0)).setCell ⟨w.heap.size + 1, 1, none⟩ (.bool an)).setCell ⟨w.heap.size + 1, 2, none⟩ (.slice aa al ac)) (w.heap.size + 1) [.int .i64 a0, .bool an, .slice aa al ac] := ((hbw.set 0 _).set 1 _).set 2 _
    generalize ((W3.setCell ⟨w.heap.size + 1, 0, none⟩ (.int .i64 a0)).setCell ⟨w.heap.size + 1, 1, none⟩ (.bool an)).setCell ⟨w.heap.size + 1, 2, none⟩ (.slice aa al ac) = W9 at *
    have m0 := hZ.cell 0
    have m1 := hZ.cell 1
    have m2 := hZ.cell 2
    simp only [List.getElem?_cons_zero, List.getElem?_cons_succ] at m0 m1 m2
    refine bodyPost_ret (v := .agg #[.int .i64 a0, .bool an, .slice aa al ac]) ?_ rfl ⟨_, q, r, rfl, hN9, HDV.out, hB9⟩
    simp [results, Tryd.results62, go_sem, m0, m1, m2]
end Go.Proofs.YtlphfokcojahlaaDoor
namespace Go.Proofs.YtlphfokcojahlaaDoor
open Go.ChangeShapes Go.WideShapes Go.ChangeAt Go.RowKit
set_option maxRecDepth 100000 in
set_option maxHeartbeats 1000000 in
theorem specRatFloor_any (s : ByteArray) (w : World) (hs : s.size ≤ maxLen) :
    Calls Tryd.prog 31 #[.string s] w fun e w' => ∃ u, e = .returned (.string u) ∧ IsResF s u ∧ Below w.heap.size w w' := by
  go_enter Tryd.func31, Tryd.ntmps31
  go_wp2_with fail
  refine (specIsRat_any s _ hs).mono ?_
  rintro e w1 ⟨b, rfl, hR, hb1⟩
  obtain ⟨k, hk, hiff⟩ := hR
  have HK := hidG hk
  have HIFF := hidG hiff
  have HB1 := hidG hb1
  clear hk hiff hb1
  cases b
  · have HF : Hid (IsResF s (strB [])) := ⟨k, HK.out, .inr ⟨fun h => Bool.noConfusion (HIFF.out.2 h), rfl⟩⟩
    go_wp2
    go_ret
    exact ⟨_, rfl, HF.out, HB1.out⟩
  · obtain ⟨x, y, hV⟩ := HIFF.out.1 rfl
    have HV := hidG hV
    have HYP : Hid (y ≠ 0) := by have := ratV_pos hV; show y ≠ 0; omega
    clear hV
    go_wp2_with fail
    refine (l2Read_any s k x y _ hs HK.out HV.out).mono ?_
    rintro e w2 ⟨z, rfl, hz, hb2⟩
    have HZ := hidG hz
    have HB2 := hidG hb2
    have HBW2 := hidG (HB1.out.trans (hb2.mono HB1.out.size))
    obtain ⟨p0, pn, pa, pl, pc, q0, qn, qa, ql, qc, rfl, _, _⟩ := hz
    clear hb2
    go_wp2_with fail
    refine (l2Floor_any _ _ x y _ HB2.out.size HZ.out HYP.out).mono ?_
    rintro e w3 ⟨z3, q, r, rfl, hn3, hdv, hb3⟩
    have HDV := hidG hdv
    have HN3 := hidG hn3
    have HB3 := hidG hb3
    have HBW3 := hidG (HBW2.out.trans (hb3.mono HBW2.out.size))
    clear hn3 hdv hb3
    go_wp2_with fail
    refine (toldN_any _ _ q _ HN3.out (by have := HB2.out.size; have := HB3.out.size; omega)).mono ?_
    rintro e w4 ⟨u, rfl, hu, hb4⟩
    have HF : Hid (IsResF s u) := ⟨k, HK.out, .inl ⟨x, y, q, r, HV.out, HDV.out, hu⟩⟩
    have HB4 := hidG (HBW3.out.trans (hb4.mono HBW3.out.size))
    clear hu hb4
    go_wp2
    go_ret
    exact ⟨_, rfl, HF.out, HB4.out⟩
end Go.Proofs.YtlphfokcojahlaaDoor
namespace Go.Proofs.YtlphfokcojahlaaDoor
open Go.ChangeShapes Go.WideShapes Go.ChangeAt Go.RowKit
theorem trodVars_three {H : Type} {enc : TypeId × Value → H} {P : Program} {w : World} {spare : Nat → Bool} {n0 n1 n2 : String} {gs : List (DataW H)} {ps : List MemPlace} (h : DataW.TrodVars enc P w spare [n0, n1, n2] gs ps) :
    ∃ g0 t0 cs0 f0 d0 p0 g1 t1 cs1 f1 d1 p1 g2 t2 cs2 f2 d2 p2, gs = [d0, d1, d2] ∧ P.globalNamed n0 = some g0 ∧ (P.globals[g0]?).map (·.type) = some t0 ∧ w.var? P n0 = some cs0 ∧ DataW.trod enc P w 0 spare true f0 t0 cs0.toList = some (d0, p0) ∧
      P.globalNamed n1 = some g1 ∧ (P.globals[g1]?).map (·.type) = some t1 ∧ w.var? P n1 = some cs1 ∧ DataW.trod enc P w 0 spare true f1 t1 cs1.toList = some (d1, p1) ∧
      P.globalNamed n2 = some g2 ∧ (P.globals[g2]?).map (·.type) = some t2 ∧ w.var? P n2 = some cs2 ∧ DataW.trod enc P w 0 spare true f2 t2 cs2.toList = some (d2, p2) ∧
      ps = MemPlace.row ⟨g0, 0, none⟩ cs0.size ++ p0 ++ (MemPlace.row ⟨g1, 0, none⟩ cs1.size ++ p1 ++ (MemPlace.row ⟨g2, 0, none⟩ cs2.size ++ p2)) := by
  cases gs with
  | nil => simp [DataW.TrodVars] at h
  | cons d ds =>
    obtain ⟨g0, t0, cs0, f0, p0, q0, h1, h2, h3, h4, hs, e⟩ := h
    obtain ⟨g1, t1, cs1, f1, d1, p1, g2, t2, cs2, f2, d2, p2, rfl, k1, k2, k3, k4, m1, m2, m3, m4, rfl⟩ := trodVars_two hs
    exact ⟨g0, t0, cs0, f0, d, p0, g1, t1, cs1, f1, d1, p1, g2, t2, cs2, f2, d2, p2, rfl, h1, h2, h3, h4, k1, k2, k3, k4, m1, m2, m3, m4, e⟩
/-- The three tables, where they stand in the second, third and fourth place. -/
theorem all3_of_laid {W : World} {x : String × DataW Unit} {L : List (String × DataW Unit)} (h : laidMet Tryd.prog (x :: ("loop.example/g00007/impl.limbTens", Rows.laid_loop_example_g00007_impl_limbTens) :: ("loop.example/g00007/impl.signPairs", Rows.laid_loop_example_g00007_impl_signPairs) :: ("loop.example/g00007/impl.noSteps", Rows.laid_loop_example_g00007_impl_noSteps) :: L) W) : LT W ∧ SP W ∧ NS W :=
  ⟨lt_of_laid h, sp_of_laid (laidMet_tail (laidMet_tail h)), ns_of_laid (laidMet_tail (laidMet_tail (laidMet_tail h)))⟩
end Go.Proofs.YtlphfokcojahlaaDoor
namespace Go.Proofs.YtlphfokcojahlaaDoor.fnExactRatFloor
open Go.ChangeShapes Go.WideShapes Go.ChangeAt Go.RowKit
open Go.ChangeMaps (open_string shut_string)
set_option linter.unusedVariables false
theorem own : ownKnob Tryd.prog.godebug = none := by kernel_rfl
theorem laidOut : laidOutB Tryd.prog = true := by kernel_rfl
set_option maxRecDepth 100000 in
set_option maxHeartbeats 1000000 in
theorem walk (a0 : ByteArray) (w0 : a0.size ≤ maxLen) (w : World) (h : LT w ∧ SP w ∧ NS w) :
    Calls Tryd.prog 12 #[.string a0] w fun e w' => e = .returned (.bool true) ∧ Below w.heap.size w w' := by
  have hs := w0
  have HS : Hid (LT w ∧ SP w ∧ NS w) := h
  clear h
  unfold maxLen at w0
  by_cases c : 1048576 < a0.size
  · have z : decide (1048576 < (a0.size : Int)) = true := by rw [decide_eq_true_iff]; omega
    go_enter Tryd.func12, Tryd.ntmps12
    go_wp2
    go_ret
    exact ⟨rfl, Below.refl _ _⟩
  have z : decide (1048576 < (a0.size : Int)) = false := by rw [decide_eq_false_iff_not]; omega
  clear c
  go_enter Tryd.func12, Tryd.ntmps12
  go_wp2_with fail
  refine (specRatFloor_any a0 _ hs).mono ?_
  rintro e W1 ⟨u, rfl, hu, hb1⟩
  have HU : Hid (IsResF a0 u) := hu
  have HB1 : Hid (Below w.heap.size w W1) := hb1
  clear hb1 hu
  go_wp2_with fail
  refine (implRatFloor_any a0 _ hs (HS.out.2.1.below HB1.out) (HS.out.2.2.below HB1.out) (HS.out.1.below HB1.out)).mono ?_
  rintro e W2 ⟨v, rfl, hv, hb2⟩
  have e1 : v = u := hv.eq HU.out
  subst e1
  have HB2 : Hid (Below w.heap.size w W2) := HB1.out.trans (hb2.mono HB1.out.size)
  clear hb2 hv
  go_wp2
  go_ret
  exact ⟨rfl, HB2.out⟩
set_option maxRecDepth 100000 in
theorem lifted (os : Os) (started : os.Started) (H : Type) (enc : TypeId × Value → H) :
    ReturnsInHanded {} Tryd.checked os 12 .any (fun w args => (Rows.fnExactRatFloorSpec.pre enc Tryd.prog Tryd.f12 [] false w args ∧ laidMetH Tryd.prog Rows.fnExactRatFloorRow.laid w) ∧ sizedMet enc Tryd.prog Tryd.f12 (OpenSpec.ofChange Rows.fnExactRatFloorSpec) false w args)
      (Rows.fnExactRatFloorSpec.post enc Tryd.prog Tryd.f12 false true false false) := by
  refine returnsInHanded_of_change_and (C := Tryd.checked) (X := fun w _ => laidMetH Tryd.prog Rows.fnExactRatFloorRow.laid w) (fun _ _ _ hh h => h.of_heap hh) own started (by kernel_rfl) Tryd.func12
    (ChangeSpec.witness_shaped (enc := enc) (C := Tryd.checked) (os := os) (X := fun w _ => laidMetH Tryd.prog Rows.fnExactRatFloorRow.laid w) false (World.laidAll Tryd.prog os Rows.fnExactRatFloorRow.laid) #[.string ByteArray.empty] 8 (World.laidAll_os _ _ _)
      (World.shaped_of_ZipB (by kernel_rfl) (by kernel_rfl)) (by kernel_rfl) (by kernel_rfl) (by kernel_rfl)
      (by rw [MakeChecks.laidMetH_plain _ _ _ (by kernel_rfl)]; exact laidMet_laidAll _ (by kernel_rfl) (by kernel_rfl))) ?_
  intro W base args ds gs before hval0 hW _ _ hL _
  have hval : ∀ (j : Nat) t v, Tryd.f12.params[j]? = some t → args[j]? = some v → Value.okWide Tryd.prog W .any base t v := hval0
  have hW' := hW
  obtain ⟨p, q, hA0, hV, rfl, hfz, hnd⟩ := hW
  have hA : DataW.TrodAll enc Tryd.prog W 0 (fun _ => true) true Tryd.f12.params.toList args.toList ds p := hA0
  rw [Tryd.params12] at hA hval
  obtain ⟨v0, vs0, d0, ds0, p0, q0, hargs, rfl, rfl, h0, r0⟩ := trodAll_cons hA
  obtain ⟨rfl, rfl, rfl⟩ := trodAll_nil r0
  obtain rfl : args = #[v0] := by cases args; simp_all
  obtain ⟨g, t, cs, fuel, d, p', g2, t2, cs2, fuel2, d2, p2, g3, t3, cs3, fuel3, d3, p3, rfl, hg, ht, hvar, hd, hg2, ht2, hvar2, hd2, hg3, ht3, hvar3, hd3, rfl⟩ := trodVars_three hV
  obtain ⟨a0, rfl, rfl, rfl, w0⟩ := open_string Tryd.underlying9 (hval 0 9 v0 rfl rfl) h0
  rw [MakeChecks.laidMetH_plain _ _ _ (by kernel_rfl)] at hL
  have hsp : LT W ∧ SP W ∧ NS W := all3_of_laid hL
  clear hA0 hval0
  refine (walk a0 w0 W hsp).mono fun e W' ⟨he, bel⟩ => ?_
  subst he
  have hlt1 : 2 < W.heap.size := cell_lt hsp.2.2.1
  have hlt2 : 0 < W.heap.size := cell_lt hsp.2.1.1.1
  have hlt3 : 1 < W.heap.size := block_lt hsp.1
  obtain rfl := Option.some.inj (gSteps.symm.trans hg)
  obtain rfl := Option.some.inj (tSteps.symm.trans ht)
  obtain rfl := Option.some.inj (gSigns.symm.trans hg2)
  obtain rfl := Option.some.inj (tSigns.symm.trans ht2)
  obtain rfl := Option.some.inj (gTens.symm.trans hg3)
  obtain rfl := Option.some.inj (tTens.symm.trans ht3)
  have hdx0 : DataW.trod enc Tryd.prog W 0 (fun _ => true) true fuel 118 cs.toList = some (d, p') := hd
  have hvx0 : W.var? Tryd.prog "loop.example/g00007/impl.noSteps" = some cs := hvar
  have hltx0 : ∀ x ∈ p', x.block < W.heap.size := DataW.trod_lt fuel _ _ _ hdx0
  obtain ⟨fl0, hq0⟩ := Below.trod laidOut (by kernel_rfl) (of_decide_eq_true (by kernel_rfl)) (v := .agg cs) (⟨fuel, by simpa [Value.cells] using hdx0⟩ : DataW.Trod enc Tryd.prog W 0 (fun _ => true) true 118 (.agg cs) d p') bel hltx0
  have hz0 : DataW.trod enc Tryd.prog W' 0 (fun b => decide (b < W.heap.size)) true fl0 118 cs.toList = some (d, p') := by simpa [Value.cells] using hq0
  have hdx1 : DataW.trod enc Tryd.prog W 0 (fun _ => true) true fuel2 100 cs2.toList = some (d2, p2) := hd2
  have hvx1 : W.var? Tryd.prog "loop.example/g00007/impl.signPairs" = some cs2 := hvar2
  have hltx1 : ∀ x ∈ p2, x.block < W.heap.size := DataW.trod_lt fuel2 _ _ _ hdx1
  obtain ⟨fl1, hq1⟩ := Below.trod laidOut (by kernel_rfl) (of_decide_eq_true (by kernel_rfl)) (v := .agg cs2) (⟨fuel2, by simpa [Value.cells] using hdx1⟩ : DataW.Trod enc Tryd.prog W 0 (fun _ => true) true 100 (.agg cs2) d2 p2) bel hltx1
  have hz1 : DataW.trod enc Tryd.prog W' 0 (fun b => decide (b < W.heap.size)) true fl1 100 cs2.toList = some (d2, p2) := by simpa [Value.cells] using hq1
  have hdx2 : DataW.trod enc Tryd.prog W 0 (fun _ => true) true fuel3 104 cs3.toList = some (d3, p3) := hd3
  have hvx2 : W.var? Tryd.prog "loop.example/g00007/impl.limbTens" = some cs3 := hvar3
  have hltx2 : ∀ x ∈ p3, x.block < W.heap.size := DataW.trod_lt fuel3 _ _ _ hdx2
  obtain ⟨fl2, hq2⟩ := Below.trod laidOut (by kernel_rfl) (of_decide_eq_true (by kernel_rfl)) (v := .agg cs3) (⟨fuel3, by simpa [Value.cells] using hdx2⟩ : DataW.Trod enc Tryd.prog W 0 (fun _ => true) true 104 (.agg cs3) d3 p3) bel hltx2
  have hz2 : DataW.trod enc Tryd.prog W' 0 (fun b => decide (b < W.heap.size)) true fl2 104 cs3.toList = some (d3, p3) := by simpa [Value.cells] using hq2
  have hv3 := trodVars_mk1 (enc := enc) (spare := fun b => decide (b < W.heap.size)) gTens tTens (var?_below bel gTens hlt3 hvx2) hz2
  have hv2 : DataW.TrodVars enc Tryd.prog W' (fun b => decide (b < W.heap.size)) ["loop.example/g00007/impl.signPairs", "loop.example/g00007/impl.limbTens"] [d2, d3] (MemPlace.row ⟨0, 0, none⟩ cs2.size ++ p2 ++ (MemPlace.row ⟨1, 0, none⟩ cs3.size ++ p3)) :=
    ⟨_, _, cs2, fl1, p2, _, gSigns, tSigns, var?_below bel gSigns hlt2 hvx1, hz1, hv3, rfl⟩
  have hv' : DataW.TrodVars enc Tryd.prog W' (fun b => decide (b < W.heap.size)) ["loop.example/g00007/impl.noSteps", "loop.example/g00007/impl.signPairs", "loop.example/g00007/impl.limbTens"] [d, d2, d3] (MemPlace.row ⟨2, 0, none⟩ cs.size ++ p' ++ (MemPlace.row ⟨0, 0, none⟩ cs2.size ++ p2 ++ (MemPlace.row ⟨1, 0, none⟩ cs3.size ++ p3))) :=
    ⟨_, _, cs, fl0, p', _, gSteps, tSteps, var?_below bel gSteps hlt1 hvx0, hz0, hv2, rfl⟩
  exact ⟨_, rfl, _, _, _, [], [], _, hW', trodAll_mk1 (shut_bool Tryd.underlying4 _), (trodAll_cons_mk (shut_string Tryd.underlying9 w0) trodAll_mk0), hv', bel.frame _, fun h => by cases h⟩

theorem over : Rows.fnExactRatFloorRow.holds Tryd.pinned (OpenSpec.ofChange Rows.fnExactRatFloorSpec) :=
  OpenClaim.holds_of_wide 12 Tryd.f12 rfl rfl rfl rfl rfl rfl rfl ⟨rfl, rfl, rfl, rfl, rfl⟩ rfl rfl rfl rfl rfl (by kernel_rfl) Tryd.func12 (by kernel_rfl)
    (of_decide_eq_true (by kernel_rfl)) (by unfold Func.isWrapper; first | (rw [if_pos (by decide +kernel)]; kernel_rfl) | (rw [if_neg (by decide +kernel)]; exact ⟨rfl, rfl⟩))
    (fun os started H enc _ => lifted os started H enc)
theorem plain (f : FuncId) (fn : Func) (hf : Tryd.pinned.checked.prog.funcNamed "loop.example/g00007/laws.FnExactRatFloor" = some f) (hfn : Tryd.pinned.checked.prog.funcs[f]? = some fn) :
    false = Tryd.pinned.checked.prog.looks [] ∧ ∀ (j : Nat) t, fn.params[j]? = some t → Tryd.pinned.checked.prog.wantsStandIn t = false := by
  obtain rfl : f = 12 := Option.some.inj ((show Tryd.prog.funcNamed "loop.example/g00007/laws.FnExactRatFloor" = some 12 by kernel_rfl).symm.trans hf) |>.symm
  obtain rfl : fn = Tryd.f12 := (Option.some.inj (Tryd.func12.symm.trans hfn)).symm
  refine ⟨by kernel_rfl, fun j t ht => ?_⟩
  rw [Tryd.params12] at ht
  obtain rfl : t = 9 := by simpa using Array.mem_of_getElem? ht
  exact (show Tryd.prog.wantsStandIn 9 = false by kernel_rfl)
end Go.Proofs.YtlphfokcojahlaaDoor.fnExactRatFloor
namespace Go.Proofs.YtlphfokcojahlaaDoor
theorem fnExactRatFloor_holds : Rows.FnExactRatFloorCardSaid :=
  Claim7.holds_tied_plain_at .later [] _ _ _ _ fnExactRatFloor.over (fun _ h => by cases h) (by kernel_rfl) (fun _ h => by cases h) fnExactRatFloor_row_tie rfl ⟨rfl, rfl⟩ (by kernel_rfl) rfl fnExactRatFloor.plain (by kernel_rfl)
#print axioms fnExactRatFloor_holds
end Go.Proofs.YtlphfokcojahlaaDoor
