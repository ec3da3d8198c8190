import Derived.Test.YtlphfokcojahlaaDoorGcdSpec
import Derived.Test.YtlphfokcojahlaaDoorRatD
import Derived.Test.YtlphfokcojahlaaDoorRatF
import Derived.Test.YtlphfokcojahlaaDoorGcdLaid
import Derived.Test.YtlphfokcojahlaaDoorRows
import Derived.Test.YtlphfokcojahlaaDoorCards
import Derived.Test.YtlphfokcojahlaaDoorTie
import Derived.WalkKit
import Derived.ProofKit
import Derived.OpenShut
import Derived.ShutString
import Derived.ChangeOld
import Derived.ChangeVars
import Derived.Below
import Derived.WalkSmall
import Derived.LaidMore
import Derived.Lay
import Derived.Stop.Joined
import Derived.SevenTiedAt
namespace Go.Proofs.YtlphfokcojahlaaDoor
open Go.ChangeShapes Go.WideShapes Go.ChangeAt Go.RowKit
theorem isN_one {B : Nat} {w : World} {g0 : Int} {gn : Bool} {ga : Option Addr} {gl gc : Nat} {G : Int} (h : IsN B w (.agg #[.int .i64 g0, .bool gn, .slice ga gl gc]) G) : (((gl : Int) == 0) && (g0 == 1)) = decide (G = 1) := by
  obtain ⟨neg, t, ⟨hok, htr, hz⟩, hx⟩ := h
  rcases hz with ⟨h2, v, e, ⟨p, c, rfl, _⟩⟩ | ⟨h2, e⟩
  · simp only [Value.agg.injEq, Array.mk.injEq, List.cons.injEq, Value.slice.injEq, and_true] at e
    have hl : gl = t.length := e.2.2.2.1
    have hne : t ≠ [] := by rintro rfl; simp at h2
    have h3 := val_ge t htr hne
    have h4 : 1000000000 ^ 2 ≤ 1000000000 ^ (t.length - 1) := Nat.pow_le_pow_right (by decide) (by omega)
    have h5 : (1000000000 : Nat) ^ 2 = 1000000000000000000 := by decide
    have hG : G ≠ 1 := by
      rw [← hx]
      cases neg <;> simp [sg] <;> omega
    have hz : ((gl : Int) == 0) = false := by rw [beq_eq_false_iff_ne]; omega
    rw [hz, decide_eq_false hG]
    rfl
  · simp only [Value.agg.injEq, Array.mk.injEq, List.cons.injEq, Value.slice.injEq, Value.int.injEq, and_true, true_and] at e
    have hg : g0 = sg neg (val t) := e.1
    have hl : gl = 0 := e.2.2.2.1
    subst hl hg
    rw [hx]
    by_cases hG : G = 1
    · subst hG; rfl
    · have : (G == 1) = false := by rw [beq_eq_false_iff_ne]; exact hG
      rw [this, decide_eq_false hG]; rfl
theorem isNeg_at (q : ByteArray) (h : 0 < q.size) : ((q[0].toNat : Int) == 45) = isNeg q := by
  unfold isNeg
  have e : (q.extract 0 1).toList = [q[0]] := by
    rw [ByteArray.toList_eq, ByteArray.data_extract, Array.toList_extract]
    show (q.data.toList.drop 0).take (1 - 0) = [q[0]]
    have hl : 0 < q.data.toList.length := by simpa using h
    cases hq : q.data.toList with
    | nil => rw [hq] at hl; simp at hl
    | cons c l =>
      have : q[0] = c := by
        have h1 : q.data.toList[0]? = some q[0] := by rw [List.getElem?_eq_getElem hl]; rfl
        rw [hq] at h1
        simpa using h1.symm
      rw [this]; rfl
  rw [e]
  by_cases hc : q[0] = 45
  · rw [hc]; rfl
  · have h1 : ((q[0].toNat : Int) == 45) = false := by
      rw [beq_eq_false_iff_ne]
      intro e2
      exact hc (UInt8.toNat_inj.1 (by have e3 : (45 : UInt8).toNat = 45 := rfl; omega))
    have h2 : ([q[0]] == [45]) = false := by simp [hc]
    rw [h1, h2]
theorem eqB (a : ByteArray) (c : UInt8) : (a.toList == [c]) = decide (a = strB [c]) := by
  have : (strB [c]).toList = [c] := by rw [ByteArray.toList_eq]; rfl
  have h := toList_inj (a := a) (b := strB [c])
  rw [this] at h
  exact h
set_option maxRecDepth 100000 in
set_option maxHeartbeats 2000000 in
theorem specIsRat_any (s : ByteArray) (w : World) (hs : s.size ≤ maxLen) :
    Calls Tryd.prog 27 #[.string s] w fun e w' => ∃ b, e = .returned (.bool b) ∧ IsRatB s b ∧ Below w.heap.size w w' := by
  obtain ⟨k, hk⟩ := isCut_ex s
  have HK := hidG hk
  clear hk
  cases k with
  | none =>
    go_enter Tryd.func27, Tryd.ntmps27
    go_wp2_with fail
    refine (l2Cut_any s none _ hs HK.out).mono ?_
    rintro e w' ⟨rfl, hw'⟩
    subst hw'
    have e1 : cutI none = -1 := rfl
    rw [e1]
    go_wp2_with fail
    refine (isInt_spec s _ hs).mono ?_
    rintro e w2 ⟨rfl, hw2⟩
    subst hw2
    obtain ⟨b, hb⟩ : ∃ b, isIntB s = b := ⟨_, rfl⟩
    have HB := hidG hb
    rw [hb]
    clear hb
    go_wp2
    go_ret
    refine ⟨_, rfl, ⟨none, HK.out, ?_⟩, Below.refl _ _⟩
    constructor
    · intro e; exact ⟨numT s, 1, HB.out.trans e, rfl, rfl⟩
    · rintro ⟨x, y, h, _⟩; rw [← HB.out]; exact h
  | some i =>
    have hi := isCut_lt HK.out
    have hcp : s.extract 0 i = cutP s (some i) := rfl
    have hcq : s.extract (i + 1) s.size = cutQ s (some i) := rfl
    obtain ⟨p, hp⟩ : ∃ p, cutP s (some i) = p := ⟨_, rfl⟩
    obtain ⟨q, hq⟩ : ∃ q, cutQ s (some i) = q := ⟨_, rfl⟩
    have HPQ : Hid (cutP s (some i) = p ∧ cutQ s (some i) = q) := ⟨hp, hq⟩
    rw [hp] at hcp
    rw [hq] at hcq
    have hps : p.size ≤ maxLen := by rw [← hcp, ByteArray.size_extract]; omega
    have hqs : q.size ≤ maxLen := by rw [← hcq, ByteArray.size_extract]; omega
    have HSZ : Hid (p.size ≤ maxLen ∧ q.size ≤ maxLen) := ⟨hps, hqs⟩
    unfold maxLen at hs
    clear hp hq hps hqs
    go_enter Tryd.func27, Tryd.ntmps27
    go_wp2_with fail
    refine (l2Cut_any s (some i) _ (by unfold maxLen; exact hs) HK.out).mono ?_
    rintro e w' ⟨rfl, hw'⟩
    subst hw'
    have e1 : cutI (some i) = (i : Int) := rfl
    rw [e1]
    have HNOT : Hid ((¬ ∃ x y, RatV s (some i) x y) → IsRatB s false) := fun h => ⟨some i, HK.out, ⟨(fun e => by cases e), fun hx => (h hx).elim⟩⟩
    go_wp2_with fail
    refine (isInt_spec p _ HSZ.out.1).mono ?_
    rintro e w2 ⟨rfl, hw2⟩
    subst hw2
    cases hip : isIntB p
    · have HIP := hidG hip
      clear hip
      have HF : Hid (IsRatB s false) := HNOT.out (fun ⟨x, y, h⟩ => by
        have h1 := h.1.1
        rw [HPQ.out.1, HIP.out] at h1
        cases h1)
      go_wp2
      go_ret
      exact ⟨false, rfl, HF.out, Below.refl _ _⟩
    have HIP := hidG hip
    clear hip
    go_wp2_with fail
    refine (isInt_spec q _ HSZ.out.2).mono ?_
    rintro e w3 ⟨rfl, hw3⟩
    subst hw3
    cases hiq : isIntB q
    · have HIQ := hidG hiq
      clear hiq
      have HF : Hid (IsRatB s false) := HNOT.out (fun ⟨x, y, h⟩ => by
        have h1 := h.1.2
        rw [HPQ.out.2, HIQ.out] at h1
        cases h1)
      go_wp2
      go_ret
      exact ⟨false, rfl, HF.out, Below.refl _ _⟩
    have HIQ := hidG hiq
    clear hiq
    cases hp0 : (p.toList == [48])
    case true =>
      have HP0 := hidG hp0
      have HF : Hid (IsRatB s false) := HNOT.out (fun ⟨x, y, h⟩ => by
        have h1 := h.2.1.2.1
        rw [HPQ.out.1] at h1
        exact h1 (of_decide_eq_true ((eqB p 48).symm.trans HP0.out)))
      go_wp2
      go_ret
      exact ⟨false, rfl, HF.out, Below.refl _ _⟩
    case false =>
    have HP0 := hidG hp0
    cases hq0 : (q.toList == [48])
    case true =>
      have HQ0 := hidG hq0
      have HF : Hid (IsRatB s false) := HNOT.out (fun ⟨x, y, h⟩ => by
        have h1 := h.2.1.1
        rw [HPQ.out.2, of_decide_eq_true ((eqB q 48).symm.trans HQ0.out)] at h1
        exact h1 num_nil)
      go_wp2
      go_ret
      exact ⟨false, rfl, HF.out, Below.refl _ _⟩
    case false =>
    have HQ0 := hidG hq0
    cases hq1 : (q.toList == [49])
    case true =>
      have HQ1 := hidG hq1
      have HF : Hid (IsRatB s false) := HNOT.out (fun ⟨x, y, h⟩ => by
        have h1 := h.2.1.2.2.1
        rw [HPQ.out.2] at h1
        exact h1 (of_decide_eq_true ((eqB q 49).symm.trans HQ1.out)))
      go_wp2
      go_ret
      exact ⟨false, rfl, HF.out, Below.refl _ _⟩
    case false =>
    have HQ1 := hidG hq1
    have hqp : 0 < q.size := Nat.pos_of_ne_zero fun h => text_ne q HIQ.out (ByteArray.ext (by
      have : q.data.size = 0 := h
      rw [Array.eq_empty_of_size_eq_zero this]
      rfl))
    have hat := isNeg_at q hqp
    cases hneg : isNeg q
    case true =>
      have HNG := hidG hneg
      rw [hneg] at hat
      have HF : Hid (IsRatB s false) := HNOT.out (fun ⟨x, y, h⟩ => by
        have h1 := h.2.1.2.2.2.1
        rw [HPQ.out.2, HNG.out] at h1
        cases h1)
      go_wp2
      go_ret
      exact ⟨false, rfl, HF.out, Below.refl _ _⟩
    case false =>
    have HNG := hidG hneg
    rw [hneg] at hat
    clear hneg
    have HLL : Hid ((lim p).length ≤ 100000 ∧ (lim q).length ≤ 100000) := ⟨by have := lim_len' p HIP.out; omega, by have := lim_len' q HIQ.out; omega⟩
    obtain ⟨w0, hw0⟩ : ∃ w0 : World, w0 = w3 := ⟨_, rfl⟩
    have HW0 := hidG hw0
    clear hw0
    go_wp2_with fail
    refine (l1Read_any p _ HIP.out).mono ?_
    rintro e w4 ⟨z1, rfl, hz1, hb4⟩
    have HZ1 : Hid (IsZ w3.heap.size w4 z1 (isNeg p) (lim p)) := hz1
    have HB4 : Hid (Below w3.heap.size w3 w4) := hb4
    clear hz1 hb4
    go_wp2_with fail
    refine (l1Read_any q _ HIQ.out).mono ?_
    rintro e w5 ⟨z2, rfl, hz2, hb5⟩
    have HZ2 : Hid (IsZ w3.heap.size w5 z2 (isNeg q) (lim q)) := hz2.mono HB4.out.size
    have HZ1' : Hid (IsZ w3.heap.size w5 z1 (isNeg p) (lim p)) := HZ1.out.below hb5
    have HB5 : Hid (Below w3.heap.size w3 w5) := HB4.out.trans (hb5.mono HB4.out.size)
    clear hz2 hb5
    go_wp2_with fail
    refine (l1Gcd_any _ z1 z2 _ _ _ _ 100000 _ HB5.out.size HZ1'.out HZ2.out HLL.out.1 HLL.out.2 (Nat.le_refl _)).mono ?_
    rintro e w6 ⟨z3, rfl, hn3, hb6⟩
    obtain ⟨g0, gn, ga, gl, gc, rfl⟩ := hn3.shape
    have HONE := hidG (isN_one hn3)
    have HB6 : Hid (Below w3.heap.size w3 w6) := HB5.out.trans (hb6.mono HB5.out.size)
    obtain ⟨W7, hW7⟩ : ∃ W7, w6.alloc (.cells #[.int .i64 g0, .bool gn, .slice ga gl gc] 35) = W7 := ⟨_, rfl⟩
    have HW7 := hidG hW7
    have hb7 : Below w6.heap.size w6 W7 := by rw [← hW7]; exact below_alloc _ _
    have hgx : Bx W7 w6.heap.size [.int .i64 g0, .bool gn, .slice ga gl gc] := by rw [← hW7]; exact bx_new w6 _ _
    have HB7 : Hid (Below w3.heap.size w3 W7) := HB6.out.trans (hb7.mono HB6.out.size)
    have HGX : Hid (∀ W, Below W7.heap.size W7 W → Bx W w6.heap.size [.int .i64 g0, .bool gn, .slice ga gl gc]) := fun W hW => hgx.below hgx.lt hW
    have k0 := hgx.cell 0
    have k1 := hgx.cell 1
    have k2 := hgx.cell 2
    simp only [List.getElem?_cons_zero, List.getElem?_cons_succ] at k0 k1 k2
    have HRES : Hid (∀ r, decide (gcdI (sg (isNeg p) (val (lim p))) (sg (isNeg q) (val (lim q))) = 1) = r → IsRatB s r) := fun r hr => by
      refine ⟨some i, HK.out, ?_⟩
      rw [← hr, decide_eq_true_eq]
      have hg : gcdI (sg (isNeg p) (val (lim p))) (sg (isNeg q) (val (lim q))) = ((Int.gcd (numT p) (numT q) : Nat) : Int) := rfl
      rw [hg]
      constructor
      · intro h1
        refine ⟨numT p, numT q, ?_⟩
        show (isIntB (cutP s (some i)) = true ∧ isIntB (cutQ s (some i)) = true) ∧ _
        rw [HPQ.out.1, HPQ.out.2]
        refine ⟨⟨HIP.out, HIQ.out⟩, ⟨?_, ?_, ?_, HNG.out, by omega⟩, rfl, rfl⟩
        · intro h2
          have h3 := numT_inj q (strB [48]) HIQ.out (by kernel_rfl) (by rw [h2, num_nil])
          have h4 := (eqB q 48).symm.trans HQ0.out
          exact (of_decide_eq_false h4) h3
        · exact of_decide_eq_false ((eqB p 48).symm.trans HP0.out)
        · exact of_decide_eq_false ((eqB q 49).symm.trans HQ1.out)
      · rintro ⟨x, y, _, ⟨_, _, _, _, h5⟩, _⟩
        rw [HPQ.out.1, HPQ.out.2] at h5
        rw [h5]; rfl
    clear hn3 hb6 hW7 hb7 hgx
    go_upto_region 10 with fail
    rw [HW7.out]
    refine (l1IsSmall_ex g0 gn ga gl gc W7).mono ?_
    rintro e w8 ⟨rfl, hw8⟩
    have hb8 : Below W7.heap.size W7 w8 := by rw [hw8]; exact below_alloc _ _
    have HB8 : Hid (Below w3.heap.size w3 w8) := HB7.out.trans (hb8.mono HB7.out.size)
    have hx8 := HGX.out w8 hb8
    have j0 := hx8.cell 0
    simp only [List.getElem?_cons_zero] at j0
    clear hw8 hb8 hx8 k0 k1 k2
    by_cases hz : gl = 0
    · have z : ((gl : Int) == 0) = true := by rw [beq_iff_eq]; omega
      have HE : Hid ((g0 == 1) = decide (gcdI (sg (isNeg p) (val (lim p))) (sg (isNeg q) (val (lim q))) = 1)) := by
        have h := HONE.out
        rw [z] at h
        exact h
      rw [z]
      go_wp2
      go_ret
      exact ⟨_, rfl, HRES.out _ HE.out.symm, HB8.out⟩
    · have z : ((gl : Int) == 0) = false := by rw [beq_eq_false_iff_ne]; omega
      have HE : Hid (decide (gcdI (sg (isNeg p) (val (lim p))) (sg (isNeg q) (val (lim q))) = 1) = false) := by
        have h := HONE.out
        rw [z] at h
        exact h.symm
      rw [z]
      go_wp2
      go_ret
      exact ⟨_, rfl, HRES.out _ HE.out, HB8.out⟩
end Go.Proofs.YtlphfokcojahlaaDoor
namespace Go.Proofs.YtlphfokcojahlaaDoor
open Go.ChangeShapes Go.WideShapes Go.ChangeAt Go.RowKit
set_option maxRecDepth 100000 in
set_option maxHeartbeats 1000000 in
theorem implIsRat_any (s : ByteArray) (w : World) (hs : s.size ≤ maxLen) (hSP : SP w) (hNS : NS w) (hLT : LT w) :
    Calls Tryd.prog 28 #[.string s] w fun e w' => ∃ b, e = .returned (.bool b) ∧ IsRatB s b ∧ Below w.heap.size w w' := by
  obtain ⟨k, hk⟩ := isCut_ex s
  have HK := hidG hk
  have HSP := hidG hSP
  have HNS := hidG hNS
  have HLT := hidG hLT
  clear hk hSP hNS hLT
  go_enter Tryd.func28, Tryd.ntmps28
  go_wp2_with fail
  refine (readRational_any s k _ hs HK.out HSP.out HNS.out HLT.out).mono ?_
  rintro e w1 ⟨z, ok, rfl, hR, hb1⟩
  have HB1 := hidG hb1
  have HF : Hid (IsRatB s ok) := ⟨k, HK.out, hR.2.1⟩
  obtain ⟨s1, p1, l1, c1, s2, p2, l2, c2, rfl⟩ := hR.1
  clear hR hb1
  go_wp2
  go_ret
  exact ⟨ok, rfl, HF.out, HB1.out.alloc HB1.out.size _⟩
end Go.Proofs.YtlphfokcojahlaaDoor
namespace Go.Proofs.YtlphfokcojahlaaDoor
open Go.ChangeShapes Go.WideShapes Go.ChangeAt Go.RowKit
theorem trodVars_three {H : Type} {enc : TypeId × Value → H} {P : Program} {w : World} {spare : Nat → Bool} {n0 n1 n2 : String} {gs : List (DataW H)} {ps : List MemPlace} (h : DataW.TrodVars enc P w spare [n0, n1, n2] gs ps) :
    ∃ g0 t0 cs0 f0 d0 p0 g1 t1 cs1 f1 d1 p1 g2 t2 cs2 f2 d2 p2, gs = [d0, d1, d2] ∧ P.globalNamed n0 = some g0 ∧ (P.globals[g0]?).map (·.type) = some t0 ∧ w.var? P n0 = some cs0 ∧ DataW.trod enc P w 0 spare true f0 t0 cs0.toList = some (d0, p0) ∧
      P.globalNamed n1 = some g1 ∧ (P.globals[g1]?).map (·.type) = some t1 ∧ w.var? P n1 = some cs1 ∧ DataW.trod enc P w 0 spare true f1 t1 cs1.toList = some (d1, p1) ∧
      P.globalNamed n2 = some g2 ∧ (P.globals[g2]?).map (·.type) = some t2 ∧ w.var? P n2 = some cs2 ∧ DataW.trod enc P w 0 spare true f2 t2 cs2.toList = some (d2, p2) ∧
      ps = MemPlace.row ⟨g0, 0, none⟩ cs0.size ++ p0 ++ (MemPlace.row ⟨g1, 0, none⟩ cs1.size ++ p1 ++ (MemPlace.row ⟨g2, 0, none⟩ cs2.size ++ p2)) := by
  cases gs with
  | nil => simp [DataW.TrodVars] at h
  | cons d ds =>
    obtain ⟨g0, t0, cs0, f0, p0, q0, h1, h2, h3, h4, hs, e⟩ := h
    obtain ⟨g1, t1, cs1, f1, d1, p1, g2, t2, cs2, f2, d2, p2, rfl, k1, k2, k3, k4, m1, m2, m3, m4, rfl⟩ := trodVars_two hs
    exact ⟨g0, t0, cs0, f0, d, p0, g1, t1, cs1, f1, d1, p1, g2, t2, cs2, f2, d2, p2, rfl, h1, h2, h3, h4, k1, k2, k3, k4, m1, m2, m3, m4, e⟩
/-- The three tables, where they stand in the second, third and fourth place. -/
theorem all3_of_laid {W : World} {x : String × DataW Unit} {L : List (String × DataW Unit)} (h : laidMet Tryd.prog (x :: ("loop.example/g00007/impl.limbTens", Rows.laid_loop_example_g00007_impl_limbTens) :: ("loop.example/g00007/impl.signPairs", Rows.laid_loop_example_g00007_impl_signPairs) :: ("loop.example/g00007/impl.noSteps", Rows.laid_loop_example_g00007_impl_noSteps) :: L) W) : LT W ∧ SP W ∧ NS W :=
  ⟨lt_of_laid h, sp_of_laid (laidMet_tail (laidMet_tail h)), ns_of_laid (laidMet_tail (laidMet_tail (laidMet_tail h)))⟩
end Go.Proofs.YtlphfokcojahlaaDoor
namespace Go.Proofs.YtlphfokcojahlaaDoor.fnExactIsRat
open Go.ChangeShapes Go.WideShapes Go.ChangeAt Go.RowKit
open Go.ChangeMaps (open_string shut_string)
set_option linter.unusedVariables false
theorem own : ownKnob Tryd.prog.godebug = none := by kernel_rfl
theorem laidOut : laidOutB Tryd.prog = true := by kernel_rfl
set_option maxRecDepth 100000 in
set_option maxHeartbeats 1000000 in
theorem walk (a0 : ByteArray) (w0 : a0.size ≤ maxLen) (w : World) (h : LT w ∧ SP w ∧ NS w) :
    Calls Tryd.prog 10 #[.string a0] w fun e w' => e = .returned (.bool true) ∧ Below w.heap.size w w' := by
  have hs := w0
  have HS : Hid (LT w ∧ SP w ∧ NS w) := h
  clear h
  unfold maxLen at w0
  by_cases c : 1048576 < a0.size
  · have z : decide (1048576 < (a0.size : Int)) = true := by rw [decide_eq_true_iff]; omega
    go_enter Tryd.func10, Tryd.ntmps10
    go_wp2
    go_ret
    exact ⟨rfl, Below.refl _ _⟩
  have z : decide (1048576 < (a0.size : Int)) = false := by rw [decide_eq_false_iff_not]; omega
  clear c
  go_enter Tryd.func10, Tryd.ntmps10
  go_wp2_with fail
  refine (specIsRat_any a0 _ hs).mono ?_
  rintro e W1 ⟨u, rfl, hu, hb1⟩
  have HU : Hid (IsRatB a0 u) := hu
  have HB1 : Hid (Below w.heap.size w W1) := hb1
  clear hb1 hu
  go_wp2_with fail
  refine (implIsRat_any a0 _ hs (HS.out.2.1.below HB1.out) (HS.out.2.2.below HB1.out) (HS.out.1.below HB1.out)).mono ?_
  rintro e W2 ⟨v, rfl, hv, hb2⟩
  have e1 : v = u := isRatB_unique hv HU.out
  subst e1
  have HB2 : Hid (Below w.heap.size w W2) := HB1.out.trans (hb2.mono HB1.out.size)
  clear hb2 hv
  cases v
  all_goals
    go_wp2
    go_ret
    exact ⟨rfl, HB2.out⟩
set_option maxRecDepth 100000 in
theorem lifted (os : Os) (started : os.Started) (H : Type) (enc : TypeId × Value → H) :
    ReturnsInHanded {} Tryd.checked os 10 .any (fun w args => (Rows.fnExactIsRatSpec.pre enc Tryd.prog Tryd.f10 [] false w args ∧ laidMetH Tryd.prog Rows.fnExactIsRatRow.laid w) ∧ sizedMet enc Tryd.prog Tryd.f10 (OpenSpec.ofChange Rows.fnExactIsRatSpec) false w args)
      (Rows.fnExactIsRatSpec.post enc Tryd.prog Tryd.f10 false true false false) := by
  refine returnsInHanded_of_change_and (C := Tryd.checked) (X := fun w _ => laidMetH Tryd.prog Rows.fnExactIsRatRow.laid w) (fun _ _ _ hh h => h.of_heap hh) own started (by kernel_rfl) Tryd.func10
    (ChangeSpec.witness_shaped (enc := enc) (C := Tryd.checked) (os := os) (X := fun w _ => laidMetH Tryd.prog Rows.fnExactIsRatRow.laid w) false (World.laidAll Tryd.prog os Rows.fnExactIsRatRow.laid) #[.string ByteArray.empty] 8 (World.laidAll_os _ _ _)
      (World.shaped_of_ZipB (by kernel_rfl) (by kernel_rfl)) (by kernel_rfl) (by kernel_rfl) (by kernel_rfl)
      (by rw [MakeChecks.laidMetH_plain _ _ _ (by kernel_rfl)]; exact laidMet_laidAll _ (by kernel_rfl) (by kernel_rfl))) ?_
  intro W base args ds gs before hval0 hW _ _ hL _
  have hval : ∀ (j : Nat) t v, Tryd.f10.params[j]? = some t → args[j]? = some v → Value.okWide Tryd.prog W .any base t v := hval0
  have hW' := hW
  obtain ⟨p, q, hA0, hV, rfl, hfz, hnd⟩ := hW
  have hA : DataW.TrodAll enc Tryd.prog W 0 (fun _ => true) true Tryd.f10.params.toList args.toList ds p := hA0
  rw [Tryd.params10] at hA hval
  obtain ⟨v0, vs0, d0, ds0, p0, q0, hargs, rfl, rfl, h0, r0⟩ := trodAll_cons hA
  obtain ⟨rfl, rfl, rfl⟩ := trodAll_nil r0
  obtain rfl : args = #[v0] := by cases args; simp_all
  obtain ⟨g, t, cs, fuel, d, p', g2, t2, cs2, fuel2, d2, p2, g3, t3, cs3, fuel3, d3, p3, rfl, hg, ht, hvar, hd, hg2, ht2, hvar2, hd2, hg3, ht3, hvar3, hd3, rfl⟩ := trodVars_three hV
  obtain ⟨a0, rfl, rfl, rfl, w0⟩ := open_string Tryd.underlying9 (hval 0 9 v0 rfl rfl) h0
  rw [MakeChecks.laidMetH_plain _ _ _ (by kernel_rfl)] at hL
  have hsp : LT W ∧ SP W ∧ NS W := all3_of_laid hL
  clear hA0 hval0
  refine (walk a0 w0 W hsp).mono fun e W' ⟨he, bel⟩ => ?_
  subst he
  have hlt1 : 2 < W.heap.size := cell_lt hsp.2.2.1
  have hlt2 : 0 < W.heap.size := cell_lt hsp.2.1.1.1
  have hlt3 : 1 < W.heap.size := block_lt hsp.1
  obtain rfl := Option.some.inj (gSteps.symm.trans hg)
  obtain rfl := Option.some.inj (tSteps.symm.trans ht)
  obtain rfl := Option.some.inj (gSigns.symm.trans hg2)
  obtain rfl := Option.some.inj (tSigns.symm.trans ht2)
  obtain rfl := Option.some.inj (gTens.symm.trans hg3)
  obtain rfl := Option.some.inj (tTens.symm.trans ht3)
  have hdx0 : DataW.trod enc Tryd.prog W 0 (fun _ => true) true fuel 118 cs.toList = some (d, p') := hd
  have hvx0 : W.var? Tryd.prog "loop.example/g00007/impl.noSteps" = some cs := hvar
  have hltx0 : ∀ x ∈ p', x.block < W.heap.size := DataW.trod_lt fuel _ _ _ hdx0
  obtain ⟨fl0, hq0⟩ := Below.trod laidOut (by kernel_rfl) (of_decide_eq_true (by kernel_rfl)) (v := .agg cs) (⟨fuel, by simpa [Value.cells] using hdx0⟩ : DataW.Trod enc Tryd.prog W 0 (fun _ => true) true 118 (.agg cs) d p') bel hltx0
  have hz0 : DataW.trod enc Tryd.prog W' 0 (fun b => decide (b < W.heap.size)) true fl0 118 cs.toList = some (d, p') := by simpa [Value.cells] using hq0
  have hdx1 : DataW.trod enc Tryd.prog W 0 (fun _ => true) true fuel2 100 cs2.toList = some (d2, p2) := hd2
  have hvx1 : W.var? Tryd.prog "loop.example/g00007/impl.signPairs" = some cs2 := hvar2
  have hltx1 : ∀ x ∈ p2, x.block < W.heap.size := DataW.trod_lt fuel2 _ _ _ hdx1
  obtain ⟨fl1, hq1⟩ := Below.trod laidOut (by kernel_rfl) (of_decide_eq_true (by kernel_rfl)) (v := .agg cs2) (⟨fuel2, by simpa [Value.cells] using hdx1⟩ : DataW.Trod enc Tryd.prog W 0 (fun _ => true) true 100 (.agg cs2) d2 p2) bel hltx1
  have hz1 : DataW.trod enc Tryd.prog W' 0 (fun b => decide (b < W.heap.size)) true fl1 100 cs2.toList = some (d2, p2) := by simpa [Value.cells] using hq1
  have hdx2 : DataW.trod enc Tryd.prog W 0 (fun _ => true) true fuel3 104 cs3.toList = some (d3, p3) := hd3
  have hvx2 : W.var? Tryd.prog "loop.example/g00007/impl.limbTens" = some cs3 := hvar3
  have hltx2 : ∀ x ∈ p3, x.block < W.heap.size := DataW.trod_lt fuel3 _ _ _ hdx2
  obtain ⟨fl2, hq2⟩ := Below.trod laidOut (by kernel_rfl) (of_decide_eq_true (by kernel_rfl)) (v := .agg cs3) (⟨fuel3, by simpa [Value.cells] using hdx2⟩ : DataW.Trod enc Tryd.prog W 0 (fun _ => true) true 104 (.agg cs3) d3 p3) bel hltx2
  have hz2 : DataW.trod enc Tryd.prog W' 0 (fun b => decide (b < W.heap.size)) true fl2 104 cs3.toList = some (d3, p3) := by simpa [Value.cells] using hq2
  have hv3 := trodVars_mk1 (enc := enc) (spare := fun b => decide (b < W.heap.size)) gTens tTens (var?_below bel gTens hlt3 hvx2) hz2
  have hv2 : DataW.TrodVars enc Tryd.prog W' (fun b => decide (b < W.heap.size)) ["loop.example/g00007/impl.signPairs", "loop.example/g00007/impl.limbTens"] [d2, d3] (MemPlace.row ⟨0, 0, none⟩ cs2.size ++ p2 ++ (MemPlace.row ⟨1, 0, none⟩ cs3.size ++ p3)) :=
    ⟨_, _, cs2, fl1, p2, _, gSigns, tSigns, var?_below bel gSigns hlt2 hvx1, hz1, hv3, rfl⟩
  have hv' : DataW.TrodVars enc Tryd.prog W' (fun b => decide (b < W.heap.size)) ["loop.example/g00007/impl.noSteps", "loop.example/g00007/impl.signPairs", "loop.example/g00007/impl.limbTens"] [d, d2, d3] (MemPlace.row ⟨2, 0, none⟩ cs.size ++ p' ++ (MemPlace.row ⟨0, 0, none⟩ cs2.size ++ p2 ++ (MemPlace.row ⟨1, 0, none⟩ cs3.size ++ p3))) :=
    ⟨_, _, cs, fl0, p', _, gSteps, tSteps, var?_below bel gSteps hlt1 hvx0, hz0, hv2, rfl⟩
  exact ⟨_, rfl, _, _, _, [], [], _, hW', trodAll_mk1 (shut_bool Tryd.underlying4 _), (trodAll_cons_mk (shut_string Tryd.underlying9 w0) trodAll_mk0), hv', bel.frame _, fun h => by cases h⟩

theorem over : Rows.fnExactIsRatRow.holds Tryd.pinned (OpenSpec.ofChange Rows.fnExactIsRatSpec) :=
  OpenClaim.holds_of_wide 10 Tryd.f10 rfl rfl rfl rfl rfl rfl rfl ⟨rfl, rfl, rfl, rfl, rfl⟩ rfl rfl rfl rfl rfl (by kernel_rfl) Tryd.func10 (by kernel_rfl)
    (of_decide_eq_true (by kernel_rfl)) (by unfold Func.isWrapper; first | (rw [if_pos (by decide +kernel)]; kernel_rfl) | (rw [if_neg (by decide +kernel)]; exact ⟨rfl, rfl⟩))
    (fun os started H enc _ => lifted os started H enc)
theorem plain (f : FuncId) (fn : Func) (hf : Tryd.pinned.checked.prog.funcNamed "loop.example/g00007/laws.FnExactIsRat" = some f) (hfn : Tryd.pinned.checked.prog.funcs[f]? = some fn) :
    false = Tryd.pinned.checked.prog.looks [] ∧ ∀ (j : Nat) t, fn.params[j]? = some t → Tryd.pinned.checked.prog.wantsStandIn t = false := by
  obtain rfl : f = 10 := Option.some.inj ((show Tryd.prog.funcNamed "loop.example/g00007/laws.FnExactIsRat" = some 10 by kernel_rfl).symm.trans hf) |>.symm
  obtain rfl : fn = Tryd.f10 := (Option.some.inj (Tryd.func10.symm.trans hfn)).symm
  refine ⟨by kernel_rfl, fun j t ht => ?_⟩
  rw [Tryd.params10] at ht
  obtain rfl : t = 9 := by simpa using Array.mem_of_getElem? ht
  exact (show Tryd.prog.wantsStandIn 9 = false by kernel_rfl)
end Go.Proofs.YtlphfokcojahlaaDoor.fnExactIsRat
namespace Go.Proofs.YtlphfokcojahlaaDoor
theorem fnExactIsRat_holds : Rows.FnExactIsRatCardSaid :=
  Claim7.holds_tied_plain_at .later [] _ _ _ _ fnExactIsRat.over (fun _ h => by cases h) (by kernel_rfl) (fun _ h => by cases h) fnExactIsRat_row_tie rfl ⟨rfl, rfl⟩ (by kernel_rfl) rfl fnExactIsRat.plain (by kernel_rfl)
#print axioms fnExactIsRat_holds
end Go.Proofs.YtlphfokcojahlaaDoor
