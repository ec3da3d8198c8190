import Derived.Test.YtfhgfclfhghlcaaDoorDivF
import Derived.Test.YtfhgfclfhghlcaaDoorAddTop
import Derived.Test.YtfhgfclfhghlcaaDoorDivX
import Derived.Deep.DeepCutAuto
import Derived.Test.YtfhgfclfhghlcaaDoorRows
import Derived.Test.YtfhgfclfhghlcaaDoorCards
import Derived.Test.YtfhgfclfhghlcaaDoorTie
import Derived.Test.YtfhgfclfhghlcaaDoorLaidBoth
import Derived.WalkKit
import Derived.ProofKit
import Derived.OpenShut
import Derived.ShutString
import Derived.ChangeOld
import Derived.ChangeVars
import Derived.Below
import Derived.WalkSmall
import Derived.LaidMore
import Derived.Lay
import Derived.Stop.Joined
import Derived.SevenTiedAt
namespace Go.Proofs.YtfhgfclfhghlcaaDoor
open Go.ChangeShapes Go.WideShapes Go.ChangeAt Go.RowKit
theorem sg_zero_iff (n : Bool) (l : List Nat) (ht : isTrim l) : sg n (val l) = 0 ↔ l = [] := by
  constructor
  · intro h
    apply Classical.byContradiction
    intro hne
    have := val_pos l ht hne
    cases n <;> simp [sg] at h <;> omega
  · rintro rfl
    cases n <;> simp [sg, val]
theorem dividedBy_any (B : Nat) (za zb : Value) (x y : Int) (n m : Nat) (w : World) (hBw : B ≤ w.heap.size) (ha : IsI B w za x n) (hb : IsI B w zb y m) (hy : y ≠ 0) (hn : n ≤ 90000) (hm : m ≤ 90000) (hSP : SP w) :
    Calls Tryd.prog 37 #[za, zb] w fun e w' => ∃ z1 z2 q r, e = .returned (.tuple #[z1, z2]) ∧ IsI B w' z1 q (n + 2) ∧ IsI B w' z2 r (m + 3) ∧ IsDiv x y q r ∧ Below w.heap.size w w' := by
  obtain ⟨na, va, a, rfl, hva, ta, rfl, hla⟩ := ha
  obtain ⟨nb, vb, b, rfl, hvb, tb, rfl, hlb⟩ := hb
  have hne : b ≠ [] := fun h => hy ((sg_zero_iff nb b tb).2 h)
  rw [← sg_negOf na a, ← sg_negOf nb b]
  refine (divided_raw B _ _ va vb a b w hBw hva hvb (by omega) (by omega) ta tb hne hSP).mono ?_
  rintro e w' ⟨z1, z2, q, r, h1, h2, h3, h4, h5⟩
  exact ⟨z1, z2, q, r, h1, h2.mono (Nat.le_refl _) (by omega), h3.mono (Nat.le_refl _) (by omega), h4, h5⟩
/-- What both sides of IntDiv answer. -/
def IsResD (s t u v : ByteArray) : Prop := if isIntB s = true ∧ isIntB t = true ∧ numT t ≠ 0 then ∃ q r, IsDiv (numT s) (numT t) q r ∧ IsText q u ∧ IsText r v else u = strB [] ∧ v = strB []
theorem IsResD.eq {s t u v u' v' : ByteArray} (h : IsResD s t u v) (h' : IsResD s t u' v') : u = u' ∧ v = v' := by
  unfold IsResD at h h'
  split at h
  · rename_i hc
    rw [if_pos hc] at h'
    obtain ⟨q, r, h1, h2, h3⟩ := h
    obtain ⟨q', r', k1, k2, k3⟩ := h'
    obtain ⟨rfl, rfl⟩ := isDiv_unique h1 k1
    exact ⟨h2.eq k2, h3.eq k3⟩
  · rename_i hc
    rw [if_neg hc] at h'
    exact ⟨by rw [h.1, h'.1], by rw [h.2, h'.2]⟩
set_option maxRecDepth 100000 in
set_option maxHeartbeats 2000000 in
theorem implDiv_any (s t : ByteArray) (w : World) (hs : s.size ≤ maxLen) (ht : t.size ≤ maxLen) (h : SP w) (hLT : LT w) :
    Calls Tryd.prog 17 #[.string s, .string t] w fun e w' => ∃ u v, e = .returned (.tuple #[.string u, .string v]) ∧ IsResD s t u v ∧ Below w.heap.size w w' := by
  have HS : Hid (SP w) := h
  have HLT : Hid (LT w) := hLT
  clear h hLT
  by_cases hb : isIntB s = true ∧ isIntB t = true
  · have HI : Hid (isIntB s = true ∧ isIntB t = true) := hb
    have hand : Hid ((isIntB s && isIntB t) = true) := by show (isIntB s && isIntB t) = true; rw [hb.1, hb.2]; rfl
    have HR : Hid (∀ u v, IsResD s t u v ↔ if numT t ≠ 0 then ∃ q r, IsDiv (numT s) (numT t) q r ∧ IsText q u ∧ IsText r v else u = strB [] ∧ v = strB []) := fun u v => by
      unfold IsResD
      by_cases h0 : numT t ≠ 0
      · rw [if_pos ⟨hb.1, hb.2, h0⟩, if_pos h0]
      · rw [if_neg (fun h => h0 h.2.2), if_neg h0]
    have hz : numT t = 0 ↔ lim t = [] := sg_zero_iff _ _ (trimL_trim _)
    have hlz : lim t = [] ↔ (lim t).length = 0 := by constructor <;> intro h <;> simp_all
    have HZ : Hid (numT t = 0 ↔ (lim t).length = 0) := hz.trans hlz
    clear hb hz hlz
    go_enter Tryd.func17, Tryd.ntmps17
    go_wp2_with fail
    refine (readPair_any s t _ hs ht).mono ?_
    rintro e w1 ⟨n, a, l, c, n', a', l', c', rfl, h1, h2, hb1⟩
    obtain ⟨rfl, hL1⟩ := h1 HI.out.1
    obtain ⟨rfl, hL2⟩ := h2 HI.out.2
    rw [hand.out]
    have hll : l' = (lim t).length := by obtain ⟨_, _, e, _⟩ := hL2; simp at e; exact e.2.1
    obtain ⟨W1, hW1⟩ : ∃ W1, (w1.alloc (.cells #[.bool (sgn s), .slice a l c] 38)).alloc (.cells #[.bool (sgn t), .slice a' l' c'] 38) = W1 := ⟨_, rfl⟩
    have hbb : Below w1.heap.size w1 W1 := by rw [← hW1]; exact ((Below.refl _ w1).alloc (Nat.le_refl _) _).alloc (by simp) _
    have HW1 := hide hW1
    have HL1 : Hid (IsI w.heap.size W1 (.agg #[.bool (sgn s), .slice a l c]) (numT s) 280) := ⟨isNeg s, _, lim s, rfl, hL1.below hbb, trimL_trim _, rfl, lim_len' s HI.out.1⟩
    have HL2 : Hid (IsI w.heap.size W1 (.agg #[.bool (sgn t), .slice a' l' c']) (numT t) 280) := ⟨isNeg t, _, lim t, rfl, hL2.below hbb, trimL_trim _, rfl, lim_len' t HI.out.2⟩
    have HB1 : Hid (Below w.heap.size w W1) := hb1.trans (hbb.mono hb1.size)
    have HS1 : Hid (SP W1) := HS.out.below HB1.out
    have HLL : Hid (l' = (lim t).length) := hll
    clear h1 h2 hb1 hL1 hL2 hbb hW1 hll
    have hsz1 : W1.heap.size = w1.heap.size + 2 := by rw [← HW1.out]; simp
    have HXY : Hid (∀ W, Below W1.heap.size W1 W → W.cell? ⟨w1.heap.size, 0, none⟩ = some (.bool (sgn s)) ∧ W.cell? ⟨w1.heap.size, 1, none⟩ = some (.slice a l c) ∧ W.cell? ⟨w1.heap.size + 1, 0, none⟩ = some (.bool (sgn t)) ∧ W.cell? ⟨w1.heap.size + 1, 1, none⟩ = some (.slice a' l' c')) := fun W hW => by
      have q : ∀ k, k < 2 → ∀ i, W.cell? ⟨w1.heap.size + k, i, none⟩ = W1.cell? ⟨w1.heap.size + k, i, none⟩ := fun k hk i => hW.cell (p := ⟨w1.heap.size + k, i, none⟩) (by show w1.heap.size + k < W1.heap.size; omega)
      refine ⟨(q 0 (by omega) 0).trans ?_, (q 0 (by omega) 1).trans ?_, (q 1 (by omega) 0).trans ?_, (q 1 (by omega) 1).trans ?_⟩
      · rw [← HW1.out, World.cell?_alloc_past _ _ _ (by simp), World.cell?_alloc_at _ _ _ _ (by simp)]; rfl
      · rw [← HW1.out, World.cell?_alloc_past _ _ _ (by simp), World.cell?_alloc_at _ _ _ _ (by simp)]; rfl
      · rw [← HW1.out, World.cell?_alloc_at _ _ _ _ (by simp)]; rfl
      · rw [← HW1.out, World.cell?_alloc_at _ _ _ _ (by simp)]; rfl
    have HSZ1 : Hid (W1.heap.size = w1.heap.size + 2) := hsz1
    go_wp2_with fail
    rw [HW1.out]
    refine (isZero_any _ _ _ _ _).mono ?_
    rintro e w2 ⟨rfl, hw2⟩
    have HB2 : Hid (Below W1.heap.size W1 w2) := by rw [hw2]; exact below_alloc _ _
    clear hw2 hsz1
    by_cases hz : l' = 0
    · have HE : Hid (IsResD s t (strB []) (strB [])) := by
        refine (HR.out _ _).2 ?_
        rw [if_neg (fun h => h (HZ.out.2 (HLL.out.symm.trans hz)))]
        exact ⟨rfl, rfl⟩
      have z : ((l' : Int) == 0) = true := by rw [beq_iff_eq]; omega
      have HBE : Hid (Below w.heap.size w w2) := HB1.out.trans (HB2.out.mono HB1.out.size)
      rw [z]
      go_wp2
      go_ret2
      exact ⟨_, _, rfl, HE.out, HBE.out⟩
    · have z : ((l' : Int) == 0) = false := by rw [beq_eq_false_iff_ne]; omega
      have HNZ : Hid (numT t ≠ 0) := fun h => hz (HLL.out.trans (HZ.out.1 h))
      obtain ⟨x0, x1, y0, y1⟩ := HXY.out _ HB2.out
      rw [z]
      go_wp2_with fail
      refine (dividedBy_any w.heap.size _ _ (numT s) (numT t) 280 280 _ (HB1.out.trans (HB2.out.mono HB1.out.size)).size (HL1.out.below HB2.out) (HL2.out.below HB2.out) HNZ.out (by omega) (by omega) (HS1.out.below HB2.out)).mono ?_
      rintro e w3 ⟨z1, z2, q, r, rfl, hz1, hz2, hdv, hb3⟩
      have HB3 : Hid (Below W1.heap.size W1 w3) := HB2.out.trans (hb3.mono HB2.out.size)
      have HQ : Hid (∀ W, Below w3.heap.size w3 W → IsI w.heap.size W z1 q 282) := fun W hW => hz1.below hW
      have HRR : Hid (∀ W, Below w3.heap.size w3 W → IsI w.heap.size W z2 r 283) := fun W hW => hz2.below hW
      have HDV : Hid (IsDiv (numT s) (numT t) q r) := hdv
      have HF : Hid (∀ W, Below w3.heap.size w3 W → Below w.heap.size w W) := fun W hW => HB1.out.trans ((HB3.out.trans (hW.mono HB3.out.size)).mono HB1.out.size)
      obtain ⟨s1, p1, l1, c1, hv1⟩ := hz1.shape
      obtain ⟨s2, p2, l2, c2, hv2⟩ := hz2.shape
      subst hv1 hv2
      clear hz1 hz2 hdv hb3 x0 x1 y0 y1
      obtain ⟨W4, hW4⟩ : ∃ W4, (w3.alloc (.cells #[.bool s1, .slice p1 l1 c1] 38)).alloc (.cells #[.bool s2, .slice p2 l2 c2] 38) = W4 := ⟨_, rfl⟩
      have HW4 := hide hW4
      have hB4 : Below w3.heap.size w3 W4 := by rw [← hW4]; exact below_al (below_alloc _ _) _
      have hsz4 : W4.heap.size = w3.heap.size + 2 := by rw [← hW4]; simp
      have HXY4 : Hid (∀ W, Below W4.heap.size W4 W → W.cell? ⟨w3.heap.size, 0, none⟩ = some (.bool s1) ∧ W.cell? ⟨w3.heap.size, 1, none⟩ = some (.slice p1 l1 c1) ∧ W.cell? ⟨w3.heap.size + 1, 0, none⟩ = some (.bool s2) ∧ W.cell? ⟨w3.heap.size + 1, 1, none⟩ = some (.slice p2 l2 c2)) := fun W hW => by
        have q : ∀ k, k < 2 → ∀ i, W.cell? ⟨w3.heap.size + k, i, none⟩ = W4.cell? ⟨w3.heap.size + k, i, none⟩ := fun k hk i => hW.cell (p := ⟨w3.heap.size + k, i, none⟩) (by show w3.heap.size + k < W4.heap.size; omega)
        refine ⟨(q 0 (by omega) 0).trans ?_, (q 0 (by omega) 1).trans ?_, (q 1 (by omega) 0).trans ?_, (q 1 (by omega) 1).trans ?_⟩
        · rw [← hW4, World.cell?_alloc_past _ _ _ (by simp), World.cell?_alloc_at _ _ _ _ (by simp)]; rfl
        · rw [← hW4, World.cell?_alloc_past _ _ _ (by simp), World.cell?_alloc_at _ _ _ _ (by simp)]; rfl
        · rw [← hW4, World.cell?_alloc_at _ _ _ _ (by simp)]; rfl
        · rw [← hW4, World.cell?_alloc_at _ _ _ _ (by simp)]; rfl
      have HB4 : Hid (Below w3.heap.size w3 W4) := hB4
      clear hW4 hB4 hsz4
      go_wp2_with fail
      rw [HW4.out]
      obtain ⟨x0, x1, y0, y1⟩ := HXY4.out W4 (Below.refl _ _)
      go_region_with (first
        | (go_at_call_of 30 (Value.slice p1 l1 c1); refine (textI_any _ _ q 282 _ (HQ.out _ (HB4.out.trans ((Below.refl _ W4).drew.mono HB4.out.size))) (by omega) (HLT.out.below (HF.out _ (HB4.out.trans ((Below.refl _ W4).drew.mono HB4.out.size))))).mono ?_
           rintro e w5 ⟨u, rfl, hu, hb5⟩
           have HU : Hid (IsText q u) := hu
           have HB5 : Hid (Below W4.heap.size W4 w5) := (Below.refl _ W4).drew.trans (hb5.mono (Nat.le_refl _))
           obtain ⟨p0', p1', q0', q1'⟩ := HXY4.out w5 HB5.out
           clear hu hb5)
        | (go_at_call_of 30 (Value.slice p2 l2 c2); refine (textI_any _ _ r 283 _ (HRR.out _ (HB4.out.trans (HB5.out.mono HB4.out.size))) (by omega) (HLT.out.below (HF.out _ (HB4.out.trans (HB5.out.mono HB4.out.size))))).mono ?_
           rintro e w6 ⟨v, rfl, hv, hb6⟩
           have HV : Hid (IsText r v) := hv
           have HB6 : Hid (Below w.heap.size w w6) := HF.out _ (HB4.out.trans ((HB5.out.trans (hb6.mono HB5.out.size)).mono HB4.out.size))
           clear hv hb6))
      all_goals
        try simp only [List.getElem_toArray, List.getElem_cons_succ, List.getElem_cons_zero, Act.put, List.setIfInBounds_toArray, List.set_cons_succ, List.set_cons_zero]
        have HE : Hid (IsResD s t u v) := by
          refine (HR.out _ _).2 ?_
          rw [if_pos HNZ.out]
          exact ⟨q, r, HDV.out, HU.out, HV.out⟩
        go_wp2
        go_ret2
        exact ⟨_, _, rfl, HE.out, HB6.out⟩
  · have HR : Hid (IsResD s t (strB []) (strB [])) := by
      show IsResD s t (strB []) (strB [])
      unfold IsResD; rw [if_neg (fun h => hb ⟨h.1, h.2.1⟩)]; exact ⟨rfl, rfl⟩
    have hand : Hid ((isIntB s && isIntB t) = false) := by
      show (isIntB s && isIntB t) = false
      cases h1 : isIntB s
      · rfl
      · cases h2 : isIntB t
        · rfl
        · exact absurd ⟨h1, h2⟩ hb
    clear hb
    go_enter Tryd.func17, Tryd.ntmps17
    go_wp2_with fail
    refine (readPair_any s t _ hs ht).mono ?_
    rintro e w1 ⟨n, a, l, c, n', a', l', c', rfl, h1, h2, hb1⟩
    rw [hand.out]
    have HB1 : Hid (Below w.heap.size w w1) := hb1
    clear h1 h2 hb1
    go_wp2
    go_ret2
    exact ⟨_, _, rfl, HR.out, (HB1.out.alloc HB1.out.size _).alloc (by have := HB1.out.size; simp; omega) _⟩
end Go.Proofs.YtfhgfclfhghlcaaDoor
namespace Go.Proofs.YtfhgfclfhghlcaaDoor
open Go.ChangeShapes Go.WideShapes Go.ChangeAt Go.RowKit
theorem l1Div_any (B : Nat) (za zb : Value) (na nb : Bool) (a b : List Nat) (w : World) (hBw : B ≤ w.heap.size) (hza : IsZ B w za na a) (hzb : IsZ B w zb nb b) (hla : a.length ≤ 100000) (hlb : b.length ≤ 100000) (hne : b ≠ []) :
    Calls Tryd.prog 35 #[za, zb] w fun e w' => ∃ z1 z2 q r, e = .returned (.tuple #[z1, z2]) ∧ (IsN w.heap.size w' z1 q ∧ IsN w.heap.size w' z2 r) ∧ IsDiv (sg na (val a)) (sg nb (val b)) q r ∧ Below w.heap.size w w' := by
  have hoa := hza.1; have hob := hzb.1
  have htb := hzb.2.1
  obtain ⟨x, xn, pa, la, ca, rfl, fa, ga⟩ := hza.form2
  obtain ⟨y, yn, pb, lb, cb, rfl, fb, gb⟩ := hzb.form2
  by_cases h0 : la = 0 ∧ lb = 0
  · have g1 := ga h0.1
    have g2 := gb h0.2
    rw [g1.2, g2.2]
    have l1 := sg_lt na a hoa g1.1
    have l2 := sg_lt nb b hob g2.1
    exact l1Div_small _ _ w l1.1 l1.2 l2.1 l2.2 (fun h => hne ((sg_zero_iff nb b htb).1 h))
  have hz : ((la : Int) == 0) = false ∨ (((la : Int) == 0) = true ∧ ((lb : Int) == 0) = false) := by
    by_cases h : la = 0
    · exact .inr ⟨by rw [beq_iff_eq]; omega, by rw [beq_eq_false_iff_ne]; omega⟩
    · exact .inl (by rw [beq_eq_false_iff_ne]; omega)
  have h := l1Div_big B x y xn yn pa la ca pb lb cb na nb a b w hBw hz hza hzb _ _ fa fb hla hlb hne
  rw [sg_negOf, sg_negOf] at h
  exact h
theorem foldl_pos (l : List UInt8) (a : Nat) (h : 1 ≤ a) : 1 ≤ l.foldl (fun a c => a * 10 + (c.toNat - 48)) a := by
  induction l generalizing a with
  | nil => exact h
  | cons c l ih => exact ih _ (by show 1 ≤ a * 10 + (c.toNat - 48); omega)
theorem num_pos (c : UInt8) (l : List UInt8) (h : 49 ≤ c.toNat) : 1 ≤ num (c :: l) := foldl_pos l _ (by show 1 ≤ 0 * 10 + (c.toNat - 48); omega)
theorem lim_pos (d : List UInt8) (c : UInt8) (l : List UInt8) (hd : d = c :: l) (hc : 49 ≤ c.toNat) : trimL (chunks d) ≠ [] := by
  obtain ⟨k, hk⟩ : ∃ k, cnt d.length = k + 1 := ⟨cnt d.length - 1, by rw [hd]; unfold cnt; simp; omega⟩
  have hm : 1 ≤ d.length - 9 * k ∧ d.length - 9 * k ≤ 9 := by unfold cnt at hk; rw [hd] at hk ⊢; simp at hk ⊢; omega
  have hp : chunk d k ≠ 0 := by
    unfold chunk
    rw [show d.length - 9 * k - 9 = 0 by omega, List.drop_zero]
    obtain ⟨m, hm'⟩ : ∃ m, d.length - 9 * k = m + 1 := ⟨d.length - 9 * k - 1, by omega⟩
    rw [hm', hd, List.take_succ_cons]
    have := num_pos c (l.take m) hc
    omega
  unfold chunks
  rw [hk, List.range_succ, List.map_append, List.map_cons, List.map_nil, trimL_snoc_pos _ _ hp]
  simp
theorem zero_text (t : ByteArray) (h : isIntB t = true) (h0 : (t.toList == [48]) = false) : numT t ≠ 0 := by
  intro hz
  have hl : lim t = [] := (sg_zero_iff _ _ (trimL_trim _)).1 hz
  unfold isIntB at h
  rw [h0] at h
  simp only [Bool.and_eq_true, Bool.or_false, decide_eq_true_eq, Bool.not_eq_true', decide_eq_false_iff_not, List.all_eq_true] at h
  obtain ⟨⟨⟨h1, _⟩, h3⟩, h4⟩ := h
  cases hd : (dgs t).data.toList with
  | nil => have : (dgs t).size = 0 := by show (dgs t).data.size = 0; rw [← Array.length_toList, hd]; rfl
           omega
  | cons c l =>
    rw [hd] at h3 h4
    have hc := h3 c (by simp)
    simp [isDig] at hc
    have hc2 : c ≠ 48 := by simpa using h4
    have hc3 : c.toNat ≠ 48 := fun e => hc2 (UInt8.toNat_inj.1 e)
    exact lim_pos _ c l hd (by omega) hl
theorem zero_text' (t : ByteArray) (h0 : (t.toList == [48]) = true) : numT t = 0 := by
  have h1 : t.toList = [48] := by simpa using h0
  have h2 : t = strB [48] := by
    rw [ByteArray.toList_eq] at h1
    obtain ⟨⟨l⟩⟩ := t
    simp only at h1
    subst h1
    rfl
  rw [h2]
  exact (sg_zero_iff _ _ (trimL_trim _)).2 (by kernel_rfl)
theorem toldN_any (B : Nat) (z : Value) (x : Int) (w : World) (h : IsN B w z x) (hB : B ≤ w.heap.size) :
    Calls Tryd.prog 25 #[z] w fun e w' => ∃ u, e = .returned (.string u) ∧ IsText x u ∧ Below w.heap.size w w' := by
  obtain ⟨neg, l, hz, hx⟩ := h
  refine (l1Told_any B z neg l w hz hB).mono ?_
  rintro e w' ⟨rfl, hb⟩
  exact ⟨_, rfl, ⟨neg, l, hz.1, hz.2.1, hx, rfl⟩, hb⟩
set_option maxRecDepth 100000 in
set_option maxHeartbeats 2000000 in
theorem specDiv_any (s t : ByteArray) (w : World) (hs : s.size ≤ maxLen) (ht : t.size ≤ maxLen) :
    Calls Tryd.prog 16 #[.string s, .string t] w fun e w' => ∃ u v, e = .returned (.tuple #[.string u, .string v]) ∧ IsResD s t u v ∧ Below w.heap.size w w' := by
  cases hi : isIntB s
  · have HI : Hid (isIntB s = false) := hi
    have HR : Hid (IsResD s t (strB []) (strB [])) := by
      show IsResD s t (strB []) (strB [])
      unfold IsResD; rw [if_neg (fun h => by rw [hi] at h; cases h.1)]; exact ⟨rfl, rfl⟩
    clear hi
    go_enter Tryd.func16, Tryd.ntmps16
    go_wp2_with fail
    refine (isInt_spec s _ hs).mono ?_
    rintro e w' ⟨rfl, hw'⟩
    subst w'
    rw [HI.out]
    go_wp2
    go_ret2
    exact ⟨_, _, rfl, HR.out, Below.refl _ _⟩
  have HI : Hid (isIntB s = true) := hi
  cases hj : isIntB t
  · have HJ : Hid (isIntB t = false) := hj
    have HR : Hid (IsResD s t (strB []) (strB [])) := by
      show IsResD s t (strB []) (strB [])
      unfold IsResD; rw [if_neg (fun h => by rw [hj] at h; cases h.2.1)]; exact ⟨rfl, rfl⟩
    clear hi hj
    go_enter Tryd.func16, Tryd.ntmps16
    go_wp2_with fail
    refine (isInt_spec s _ hs).mono ?_
    rintro e w' ⟨rfl, hw'⟩
    subst w'
    rw [HI.out]
    go_wp2_with fail
    refine (isInt_spec t _ ht).mono ?_
    rintro e w' ⟨rfl, hw'⟩
    subst w'
    rw [HJ.out]
    go_wp2
    go_ret2
    exact ⟨_, _, rfl, HR.out, Below.refl _ _⟩
  have HJ : Hid (isIntB t = true) := hj
  have HLL : Hid ((lim s).length ≤ 100000 ∧ (lim t).length ≤ 100000) := ⟨by have := lim_len s hi; omega, by have := lim_len t hj; omega⟩
  cases h0 : (t.toList == [48])
  · have HNZ : Hid (numT t ≠ 0) := zero_text t hj h0
    have HNE : Hid (lim t ≠ []) := fun h => HNZ.out ((sg_zero_iff _ _ (trimL_trim _)).2 h)
    have HR : Hid (∀ u v q r, IsDiv (numT s) (numT t) q r → IsText q u → IsText r v → IsResD s t u v) := fun u v q r h1 h2 h3 => by
      show IsResD s t u v
      unfold IsResD; rw [if_pos ⟨hi, hj, HNZ.out⟩]; exact ⟨q, r, h1, h2, h3⟩
    clear hi hj
    go_enter Tryd.func16, Tryd.ntmps16
    go_wp2_with fail
    refine (isInt_spec s _ hs).mono ?_
    rintro e w' ⟨rfl, hw'⟩
    subst w'
    rw [HI.out]
    go_wp2_with fail
    refine (isInt_spec t _ ht).mono ?_
    rintro e w' ⟨rfl, hw'⟩
    subst w'
    rw [HJ.out]
    go_wp2_with fail
    refine (l1Read_any s _ HI.out).mono ?_
    rintro e w1 ⟨z1, rfl, hz1, hb1⟩
    have HZ1 : Hid (IsZ w.heap.size w1 z1 (isNeg s) (lim s)) := hz1
    have HB1 : Hid (Below w.heap.size w w1) := hb1
    clear hz1 hb1
    go_wp2_with fail
    refine (l1Read_any t _ HJ.out).mono ?_
    rintro e w2 ⟨z2, rfl, hz2, hb2⟩
    have HZ2 : Hid (IsZ w.heap.size w2 z2 (isNeg t) (lim t)) := hz2.mono HB1.out.size
    have HZ1' : Hid (IsZ w.heap.size w2 z1 (isNeg s) (lim s)) := HZ1.out.below hb2
    have HB2 : Hid (Below w.heap.size w w2) := HB1.out.trans (hb2.mono HB1.out.size)
    clear hz2 hb2
    go_wp2_with fail
    refine (l1Div_any w.heap.size z1 z2 _ _ _ _ _ HB2.out.size HZ1'.out HZ2.out HLL.out.1 HLL.out.2 HNE.out).mono ?_
    rintro e w3 ⟨zq, zr, q, r, rfl, ⟨hq, hr⟩, hdv, hb3⟩
    have HQ : Hid (∀ W, Below w3.heap.size w3 W → IsN w2.heap.size W zq q) := fun W hW => hq.below hW
    have HRR : Hid (∀ W, Below w3.heap.size w3 W → IsN w2.heap.size W zr r) := fun W hW => hr.below hW
    have HDV : Hid (IsDiv (numT s) (numT t) q r) := hdv
    have HB3 : Hid (Below w.heap.size w w3) := HB2.out.trans (hb3.mono HB2.out.size)
    have HS3 : Hid (w2.heap.size ≤ w3.heap.size) := hb3.size
    obtain ⟨q0, q1, q2, q3, q4, eq⟩ := hq.shape
    obtain ⟨r0, r1, r2, r3, r4, er⟩ := hr.shape
    subst eq er
    clear hq hr hdv hb3
    obtain ⟨W4, hW4⟩ : ∃ W4, (w3.alloc (.cells #[.int .i64 q0, .bool q1, .slice q2 q3 q4] 34)).alloc (.cells #[.int .i64 r0, .bool r1, .slice r2 r3 r4] 34) = W4 := ⟨_, rfl⟩
    have HW4 := hide hW4
    have hB4 : Below w3.heap.size w3 W4 := by rw [← hW4]; exact below_al (below_alloc _ _) _
    have HBQ : Hid (∀ W, Below W4.heap.size W4 W → BoxV w3.heap.size W q0 q1 q2 q3 q4 ∧ BoxV (w3.heap.size + 1) W r0 r1 r2 r3 r4) := fun W hW => by
      have h1 : BoxV w3.heap.size W4 q0 q1 q2 q3 q4 := by rw [← hW4]; exact (boxV_new _ _ _ _ _ _ _).alloc _
      have h2 : BoxV (w3.heap.size + 1) W4 r0 r1 r2 r3 r4 := by rw [← hW4]; exact boxV_new' _ _ (by simp) _ _ _ _ _ _
      exact ⟨h1.below h1.lt hW, h2.below h2.lt hW⟩
    have HB4 : Hid (Below w3.heap.size w3 W4) := hB4
    clear hW4 hB4
    go_upto_region 4 with fail
    rw [HW4.out]
    obtain ⟨⟨_, c0, c1, c2, _, _⟩, ⟨_, d0, d1, d2, _, _⟩⟩ := HBQ.out W4 (Below.refl _ _)
    go_wp2_with fail
    go_region_with (first
      | (go_at_call_of 25 (Value.int IntKind.i64 q0); refine (toldN_any _ _ q _ (HQ.out _ (HB4.out.trans ((Below.refl _ W4).drew.mono HB4.out.size))) (by have := HS3.out; have := HB4.out.size; show w2.heap.size ≤ W4.heap.size; omega)).mono ?_
         rintro e w5 ⟨u, rfl, hu, hb5⟩
         have HU : Hid (IsText q u) := hu
         have HB5 : Hid (Below W4.heap.size W4 w5) := (Below.refl _ W4).drew.trans (hb5.mono (Nat.le_refl _))
         obtain ⟨_, ⟨_, d0', d1', d2', _, _⟩⟩ := HBQ.out w5 HB5.out
         clear hu hb5)
      | (go_at_call_of 25 (Value.int IntKind.i64 r0); refine (toldN_any _ _ r _ (HRR.out _ (HB4.out.trans (HB5.out.mono HB4.out.size))) (by have := HS3.out; have := HB4.out.size; have := HB5.out.size; omega)).mono ?_
         rintro e w6 ⟨v, rfl, hv, hb6⟩
         have HV : Hid (IsText r v) := hv
         have HB6 : Hid (Below w.heap.size w w6) := HB3.out.trans ((HB4.out.trans ((HB5.out.trans (hb6.mono HB5.out.size)).mono HB4.out.size)).mono HB3.out.size)
         clear hv hb6))
    all_goals
      try simp only [List.getElem_toArray, List.getElem_cons_succ, List.getElem_cons_zero, Act.put, List.setIfInBounds_toArray, List.set_cons_succ, List.set_cons_zero]
      go_wp2
      go_ret2
      exact ⟨_, _, rfl, HR.out _ _ _ _ HDV.out HU.out HV.out, HB6.out⟩
  · have HR : Hid (IsResD s t (strB []) (strB [])) := by
      show IsResD s t (strB []) (strB [])
      unfold IsResD; rw [if_neg (fun h => h.2.2 (zero_text' t h0))]; exact ⟨rfl, rfl⟩
    clear hi hj
    go_enter Tryd.func16, Tryd.ntmps16
    go_wp2_with fail
    refine (isInt_spec s _ hs).mono ?_
    rintro e w' ⟨rfl, hw'⟩
    subst w'
    rw [HI.out]
    go_wp2_with fail
    refine (isInt_spec t _ ht).mono ?_
    rintro e w' ⟨rfl, hw'⟩
    subst w'
    rw [HJ.out]
    go_wp2
    go_ret2
    exact ⟨_, _, rfl, HR.out, Below.refl _ _⟩
end Go.Proofs.YtfhgfclfhghlcaaDoor
namespace Go.Proofs.YtfhgfclfhghlcaaDoor.fnExactIntDiv
open Go.ChangeShapes Go.WideShapes Go.ChangeAt Go.RowKit
open Go.ChangeMaps (open_string shut_string)
set_option linter.unusedVariables false
theorem own : ownKnob Tryd.prog.godebug = none := by kernel_rfl
theorem laidOut : laidOutB Tryd.prog = true := by kernel_rfl
set_option maxRecDepth 100000 in
set_option maxHeartbeats 1000000 in
theorem walk (a0 a1 : ByteArray) (w0 : a0.size ≤ maxLen) (w1 : a1.size ≤ maxLen) (w : World) (h : LT w ∧ SP w) :
    Calls Tryd.prog 6 #[.string a0, .string a1] w fun e w' => e = .returned (.bool true) ∧ Below w.heap.size w w' := by
  have hs := w0
  have ht := w1
  have HS : Hid (LT w ∧ SP w) := h
  clear h
  unfold maxLen at w0 w1
  by_cases c : 1048576 < a0.size
  · have z : decide (1048576 < (a0.size : Int)) = true := by rw [decide_eq_true_iff]; omega
    go_enter Tryd.func6, Tryd.ntmps6
    go_wp2
    go_ret
    exact ⟨rfl, Below.refl _ _⟩
  have z : decide (1048576 < (a0.size : Int)) = false := by rw [decide_eq_false_iff_not]; omega
  by_cases c2 : 1048576 < a1.size
  · have z2 : decide (1048576 < (a1.size : Int)) = true := by rw [decide_eq_true_iff]; omega
    go_enter Tryd.func6, Tryd.ntmps6
    go_wp2
    go_ret
    exact ⟨rfl, Below.refl _ _⟩
  have z2 : decide (1048576 < (a1.size : Int)) = false := by rw [decide_eq_false_iff_not]; omega
  clear c c2
  go_enter Tryd.func6, Tryd.ntmps6
  go_wp2_with fail
  refine (specDiv_any a0 a1 _ hs ht).mono ?_
  rintro e W1 ⟨u, u', rfl, hu, hb1⟩
  have HU : Hid (IsResD a0 a1 u u') := hu
  have HB1 : Hid (Below w.heap.size w W1) := hb1
  clear hb1 hu
  go_wp2_with fail
  refine (implDiv_any a0 a1 _ hs ht (HS.out.2.below HB1.out) (HS.out.1.below HB1.out)).mono ?_
  rintro e W2 ⟨v, v', rfl, hv, hb2⟩
  obtain ⟨e1, e2⟩ := hv.eq HU.out
  subst e1 e2
  have HB2 : Hid (Below w.heap.size w W2) := HB1.out.trans (hb2.mono HB1.out.size)
  clear hb2 hv
  go_wp2
  go_ret
  exact ⟨rfl, HB2.out⟩
set_option maxRecDepth 100000 in
theorem lifted (os : Os) (started : os.Started) (H : Type) (enc : TypeId × Value → H) :
    ReturnsInHanded {} Tryd.checked os 6 .any (fun w args => (Rows.fnExactIntDivSpec.pre enc Tryd.prog Tryd.f6 [] false w args ∧ laidMetH Tryd.prog Rows.fnExactIntDivRow.laid w) ∧ sizedMet enc Tryd.prog Tryd.f6 (OpenSpec.ofChange Rows.fnExactIntDivSpec) false w args)
      (Rows.fnExactIntDivSpec.post enc Tryd.prog Tryd.f6 false true false false) := by
  refine returnsInHanded_of_change_and (C := Tryd.checked) (X := fun w _ => laidMetH Tryd.prog Rows.fnExactIntDivRow.laid w) (fun _ _ _ hh h => h.of_heap hh) own started (by kernel_rfl) Tryd.func6
    (ChangeSpec.witness_shaped (enc := enc) (C := Tryd.checked) (os := os) (X := fun w _ => laidMetH Tryd.prog Rows.fnExactIntDivRow.laid w) false (World.laidAll Tryd.prog os Rows.fnExactIntDivRow.laid) #[.string ByteArray.empty, .string ByteArray.empty] 8 (World.laidAll_os _ _ _)
      (World.shaped_of_ZipB (by kernel_rfl) (by kernel_rfl)) (by kernel_rfl) (by kernel_rfl) (by kernel_rfl)
      (by rw [MakeChecks.laidMetH_plain _ _ _ (by kernel_rfl)]; exact laidMet_laidAll _ (by kernel_rfl) (by kernel_rfl))) ?_
  intro W base args ds gs before hval0 hW _ _ hL _
  have hval : ∀ (j : Nat) t v, Tryd.f6.params[j]? = some t → args[j]? = some v → Value.okWide Tryd.prog W .any base t v := hval0
  have hW' := hW
  obtain ⟨p, q, hA0, hV, rfl, hfz, hnd⟩ := hW
  have hA : DataW.TrodAll enc Tryd.prog W 0 (fun _ => true) true Tryd.f6.params.toList args.toList ds p := hA0
  rw [Tryd.params6] at hA hval
  obtain ⟨v0, vs0, d0, ds0, p0, q0, hargs, rfl, rfl, h0, r0⟩ := trodAll_cons hA
  obtain ⟨v1, vs1, d1, ds1, p1, q1, rfl, rfl, rfl, h1, r1⟩ := trodAll_cons r0
  obtain ⟨rfl, rfl, rfl⟩ := trodAll_nil r1
  obtain rfl : args = #[v0, v1] := by cases args; simp_all
  obtain ⟨g, t, cs, fuel, d, p', g2, t2, cs2, fuel2, dd, pp, rfl, hg, ht, hvar, hd, hg2, ht2, hvar2, hd2, rfl⟩ := trodVars_two hV
  obtain ⟨a0, rfl, rfl, rfl, w0⟩ := open_string Tryd.underlying9 (hval 0 9 v0 rfl rfl) h0
  obtain ⟨a1, rfl, rfl, rfl, w1⟩ := open_string Tryd.underlying9 (hval 1 9 v1 rfl rfl) h1
  rw [MakeChecks.laidMetH_plain _ _ _ (by kernel_rfl)] at hL
  have hsp : LT W ∧ SP W := both_of_laid hL
  clear hA0 hval0
  refine (walk a0 a1 w0 w1 W hsp).mono fun e W' ⟨he, bel⟩ => ?_
  subst he
  have hlt1 : 0 < W.heap.size := cell_lt hsp.2.1.1
  have hlt2 : 1 < W.heap.size := block_lt hsp.1
  obtain rfl := Option.some.inj (gSigns.symm.trans hg)
  obtain rfl := Option.some.inj (tSigns.symm.trans ht)
  obtain rfl := Option.some.inj (gTens.symm.trans hg2)
  obtain rfl := Option.some.inj (tTens.symm.trans ht2)
  have hdx : DataW.trod enc Tryd.prog W 0 (fun _ => true) true fuel 79 cs.toList = some (d, p') := hd
  have hdy : DataW.trod enc Tryd.prog W 0 (fun _ => true) true fuel2 83 cs2.toList = some (dd, pp) := hd2
  have hvx : W.var? Tryd.prog "loop.example/g00007/impl.signPairs" = some cs := hvar
  have hvy : W.var? Tryd.prog "loop.example/g00007/impl.limbTens" = some cs2 := hvar2
  have hltx : ∀ x ∈ p', x.block < W.heap.size := DataW.trod_lt fuel _ _ _ hdx
  have hlty : ∀ x ∈ pp, x.block < W.heap.size := DataW.trod_lt fuel2 _ _ _ hdy
  obtain ⟨fuel', hd'⟩ := Below.trod laidOut (by kernel_rfl) (of_decide_eq_true (by kernel_rfl)) (v := .agg cs) (⟨fuel, by simpa [Value.cells] using hdx⟩ : DataW.Trod enc Tryd.prog W 0 (fun _ => true) true 79 (.agg cs) d p') bel hltx
  obtain ⟨fuel'', hd''⟩ := Below.trod laidOut (by kernel_rfl) (of_decide_eq_true (by kernel_rfl)) (v := .agg cs2) (⟨fuel2, by simpa [Value.cells] using hdy⟩ : DataW.Trod enc Tryd.prog W 0 (fun _ => true) true 83 (.agg cs2) dd pp) bel hlty
  have hd3 : DataW.trod enc Tryd.prog W' 0 (fun b => decide (b < W.heap.size)) true fuel' 79 cs.toList = some (d, p') := by simpa [Value.cells] using hd'
  have hd4 : DataW.trod enc Tryd.prog W' 0 (fun b => decide (b < W.heap.size)) true fuel'' 83 cs2.toList = some (dd, pp) := by simpa [Value.cells] using hd''
  have hv2 := trodVars_mk1 (enc := enc) (spare := fun b => decide (b < W.heap.size)) gTens tTens (var?_below bel gTens hlt2 hvy) hd4
  have hv' : DataW.TrodVars enc Tryd.prog W' (fun b => decide (b < W.heap.size)) ["loop.example/g00007/impl.signPairs", "loop.example/g00007/impl.limbTens"] [d, dd] (MemPlace.row ⟨0, 0, none⟩ cs.size ++ p' ++ (MemPlace.row ⟨1, 0, none⟩ cs2.size ++ pp)) :=
    ⟨_, _, cs, fuel', p', _, gSigns, tSigns, var?_below bel gSigns hlt1 hvx, hd3, hv2, rfl⟩
  exact ⟨_, rfl, _, _, _, [], [], _, hW', trodAll_mk1 (shut_bool Tryd.underlying4 _), (trodAll_cons_mk (shut_string Tryd.underlying9 w0) (trodAll_cons_mk (shut_string Tryd.underlying9 w1) trodAll_mk0)), hv', bel.frame _, fun h => by cases h⟩

theorem over : Rows.fnExactIntDivRow.holds Tryd.pinned (OpenSpec.ofChange Rows.fnExactIntDivSpec) :=
  OpenClaim.holds_of_wide 6 Tryd.f6 rfl rfl rfl rfl rfl rfl rfl ⟨rfl, rfl, rfl, rfl, rfl⟩ rfl rfl rfl rfl rfl (by kernel_rfl) Tryd.func6 (by kernel_rfl)
    (of_decide_eq_true (by kernel_rfl)) (by unfold Func.isWrapper; first | (rw [if_pos (by decide +kernel)]; kernel_rfl) | (rw [if_neg (by decide +kernel)]; exact ⟨rfl, rfl⟩))
    (fun os started H enc _ => lifted os started H enc)
theorem plain (f : FuncId) (fn : Func) (hf : Tryd.pinned.checked.prog.funcNamed "loop.example/g00007/laws.FnExactIntDiv" = some f) (hfn : Tryd.pinned.checked.prog.funcs[f]? = some fn) :
    false = Tryd.pinned.checked.prog.looks [] ∧ ∀ (j : Nat) t, fn.params[j]? = some t → Tryd.pinned.checked.prog.wantsStandIn t = false := by
  obtain rfl : f = 6 := Option.some.inj ((show Tryd.prog.funcNamed "loop.example/g00007/laws.FnExactIntDiv" = some 6 by kernel_rfl).symm.trans hf) |>.symm
  obtain rfl : fn = Tryd.f6 := (Option.some.inj (Tryd.func6.symm.trans hfn)).symm
  refine ⟨by kernel_rfl, fun j t ht => ?_⟩
  rw [Tryd.params6] at ht
  obtain rfl : t = 9 := by simpa using Array.mem_of_getElem? ht
  exact (show Tryd.prog.wantsStandIn 9 = false by kernel_rfl)
end Go.Proofs.YtfhgfclfhghlcaaDoor.fnExactIntDiv
namespace Go.Proofs.YtfhgfclfhghlcaaDoor
theorem fnExactIntDiv_holds : Rows.FnExactIntDivCardSaid :=
  Claim7.holds_tied_plain_at .later [] _ _ _ _ fnExactIntDiv.over (fun _ h => by cases h) (by kernel_rfl) (fun _ h => by cases h) fnExactIntDiv_row_tie rfl ⟨rfl, rfl⟩ (by kernel_rfl) rfl fnExactIntDiv.plain (by kernel_rfl)
#print axioms fnExactIntDiv_holds
end Go.Proofs.YtfhgfclfhghlcaaDoor
