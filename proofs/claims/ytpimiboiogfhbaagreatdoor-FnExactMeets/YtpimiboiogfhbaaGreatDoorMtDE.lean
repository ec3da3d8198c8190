import Derived.Test.YtpimiboiogfhbaaGreatDoorMtC
import Derived.Test.YtpimiboiogfhbaaGreatDoorLrGH
namespace Go.Proofs.YtpimiboiogfhbaaGreatDoor.L
open Go.ChangeShapes Go.WideShapes Go.ChangeAt Go.RowKit
def ansM (F : List Lr) (N : List Int) (D : Int) : Bool := F.all (fun f => metB (dotN (coefs f) (numsOf N) N.length) (numT (strOf f.bd) * D) f.st)
def metF (N : List Int) (D : Int) (f : Lr) : Bool := metB (dotN (coefs f) (numsOf N) N.length) (numT (strOf f.bd) * D) f.st
theorem ansM_metF (F : List Lr) (N : List Int) (D : Int) : ansM F N D = F.all (metF N D) := rfl
/-- What Meets answers. -/
def MeetsB (cols : Int) (F : List Lr) (L : List (List UInt8)) (b : Bool) : Prop :=
  (¬ (goodR cols F = true ∧ (L.length : Int) = cols) → b = false) ∧ ((∃ s ∈ L, ∀ x y, ¬ RatIs s x y) → b = false) ∧
    (goodR cols F = true → (L.length : Int) = cols → ∀ (V : List (Int × Int)) (N : List Int) (D : Int), V.length = L.length → (∀ i (h : i < L.length) (h' : i < V.length), RatIs L[i] V[i].1 V[i].2) → Comm V N D → b = ansM F N D)
theorem RatIs.pos {s : List UInt8} {x y : Int} (h : RatIs s x y) : 0 < y := by
  obtain ⟨k, _, h⟩ := h
  exact (ratV_lt h).2.2
theorem RatIs.one {s : List UInt8} {x y x' y' : Int} (h : RatIs s x y) (h' : RatIs s x' y') : x = x' ∧ y = y' := by
  obtain ⟨k, h1, h2⟩ := h
  obtain ⟨k', h1', h2'⟩ := h'
  obtain rfl := isCut_unique h1 h1'
  cases k with
  | none => exact ⟨h2.2.1.trans h2'.2.1.symm, h2.2.2.trans h2'.2.2.symm⟩
  | some i => exact ⟨h2.2.2.1.trans h2'.2.2.1.symm, h2.2.2.2.trans h2'.2.2.2.symm⟩
theorem comm_ex : ∀ (V : List (Int × Int)), (∀ x ∈ V, 0 < x.2) → ∃ N D, Comm V N D := by
  intro V
  obtain ⟨n, hn⟩ : ∃ n, V.length = n := ⟨_, rfl⟩
  induction n generalizing V with
  | zero =>
    intro _
    have : V = [] := List.eq_nil_of_length_eq_zero hn
    subst this
    exact ⟨[], 1, rfl, by decide, fun i h => absurd h (Nat.not_lt_zero _)⟩
  | succ n ih =>
    intro h
    have hne : V ≠ [] := fun e => by rw [e] at hn; cases hn
    have e := List.dropLast_concat_getLast hne
    obtain ⟨N, D, hC⟩ := ih V.dropLast (by simp [hn]) (fun x hx => h x (List.dropLast_subset _ hx))
    have := hC.next (x := (V.getLast hne).1) (y := (V.getLast hne).2) (h _ (List.getLast_mem hne))
    rw [show (((V.getLast hne).1, (V.getLast hne).2) : Int × Int) = V.getLast hne from rfl, e] at this
    exact ⟨_, _, this⟩
theorem dotN_scale {a n n' : Nat → Int} {D D' : Int} {k : Nat} (h : ∀ i, i < k → n i * D' = n' i * D) : dotN a n k * D' = dotN a n' k * D := by
  induction k with
  | zero => simp [dotN]
  | succ k ih =>
    have h1 := ih (fun i hi => h i (by omega))
    have h2 := h k (by omega)
    show (dotN a n k + a k * n k) * D' = (dotN a n' k + a k * n' k) * D
    rw [Int.add_mul, Int.add_mul, h1, Int.mul_assoc, h2, Int.mul_assoc]
theorem metB_scale {S S' T T' D D' : Int} {st : Bool} (hD : 0 < D) (hD' : 0 < D') (h1 : S * D' = S' * D) (h2 : T * D' = T' * D) : metB S T st = metB S' T' st := by
  have e1 : (S < T) ↔ (S' < T') := by
    rw [← Int.mul_lt_mul_right hD', h1, h2, Int.mul_lt_mul_right hD]
  have e2 : (S = T) ↔ (S' = T') := by
    constructor
    · intro e
      rw [e, h2] at h1
      exact (Int.eq_of_mul_eq_mul_right (Int.ne_of_gt hD) h1).symm
    · intro e
      rw [← e, ← h1] at h2
      exact (Int.eq_of_mul_eq_mul_right (Int.ne_of_gt hD') h2).symm
  unfold metB
  rw [decide_eq_decide.2 e1, decide_eq_decide.2 e2]
theorem comm_same {V : List (Int × Int)} {N N' : List Int} {D D' : Int} (h : Comm V N D) (h' : Comm V N' D') (hp : ∀ i (_ : i < V.length), 0 < V[i].2) : ∀ i, i < N.length → numsOf N i * D' = numsOf N' i * D := by
  intro i hi
  have hv : i < V.length := by rw [← h.1]; exact hi
  have hi' : i < N'.length := by rw [h'.1]; exact hv
  have e1 := h.2.2 i hv hi
  have e2 := h'.2.2 i hv hi'
  unfold numsOf
  rw [List.getD_eq_getElem?_getD, List.getElem?_eq_getElem hi, List.getD_eq_getElem?_getD, List.getElem?_eq_getElem hi']
  show N[i] * D' = N'[i] * D
  refine Int.eq_of_mul_eq_mul_right (Int.ne_of_gt (hp i hv)) ?_
  rw [Int.mul_right_comm N[i], e1, Int.mul_right_comm N'[i], e2, Int.mul_right_comm]
theorem ansM_same {F : List Lr} {V : List (Int × Int)} {N N' : List Int} {D D' : Int} (h : Comm V N D) (h' : Comm V N' D') (hp : ∀ i (_ : i < V.length), 0 < V[i].2) : ansM F N D = ansM F N' D' := by
  unfold ansM
  congr 1
  funext f
  have hl : N.length = N'.length := by rw [h.1, h'.1]
  rw [← hl]
  exact metB_scale h.2.1 h'.2.1 (dotN_scale (comm_same h h' hp)) (Int.mul_right_comm _ _ _)
theorem list_of' {α : Type} {Q : Nat → α → Prop} : ∀ n : Nat, (∀ i, i < n → ∃ x, Q i x) → ∃ l : List α, l.length = n ∧ ∀ i (h : i < l.length), Q i l[i]
  | 0, _ => ⟨[], rfl, fun i h => absurd h (Nat.not_lt_zero _)⟩
  | n + 1, h => by
    obtain ⟨l, hl, hq⟩ := list_of' n (fun i hi => h i (by omega))
    obtain ⟨x, hx⟩ := h n (by omega)
    refine ⟨l ++ [x], by simp [hl], fun i hi => ?_⟩
    by_cases e : i < l.length
    · rw [List.getElem_append_left e]; exact hq i e
    · have hi' : i = l.length := by simp at hi; omega
      subst hi'
      rw [List.getElem_append_right (Nat.le_refl _)]
      simp only [Nat.sub_self, List.getElem_cons_zero]
      rw [hl]; exact hx
theorem MeetsB.eq {cols : Int} {F : List Lr} {L : List (List UInt8)} {b b' : Bool} (h : MeetsB cols F L b) (h' : MeetsB cols F L b') : b = b' := by
  by_cases h0 : goodR cols F = true ∧ (L.length : Int) = cols
  · by_cases h1 : ∃ s ∈ L, ∀ x y, ¬ RatIs s x y
    · rw [h.2.1 h1, h'.2.1 h1]
    · have h2 : ∀ i, i < L.length → ∃ v : Int × Int, ∀ hi : i < L.length, RatIs L[i] v.1 v.2 := fun i hi => by
        refine Classical.byContradiction fun hn => h1 ⟨L[i], List.getElem_mem hi, fun x y hr => hn ⟨(x, y), fun _ => hr⟩⟩
      obtain ⟨V, hV, hq⟩ := list_of' L.length h2
      obtain ⟨N, D, hC⟩ := comm_ex V (fun x hx => by
        obtain ⟨j, hj, rfl⟩ := List.getElem_of_mem hx
        exact (hq j hj (by omega)).pos)
      rw [h.2.2 h0.1 h0.2 V N D hV (fun i hi hi' => hq i hi' hi) hC, h'.2.2 h0.1 h0.2 V N D hV (fun i hi hi' => hq i hi' hi) hC]
  · rw [h.1 h0, h'.1 h0]
end Go.Proofs.YtpimiboiogfhbaaGreatDoor.L
namespace Go.Proofs.YtpimiboiogfhbaaGreatDoor.L
open Go.ChangeShapes Go.WideShapes Go.ChangeAt Go.RowKit
set_option maxRecDepth 100000 in
set_option maxHeartbeats 4000000 in
theorem meets_impl (cols : Int) (v vv : Value) (F : List Lr) (L : List (List UInt8)) (w : World) (h : RowsAt w v F) (hs : F.length ≤ 1048576 ∧ ∀ f ∈ F, SmallR f) (hv : StrsAt w vv L) (hsv : SmallS L) (hT : Tabs w) (hc1 : -9223372036854775808 ≤ cols) (hc2 : cols ≤ 9223372036854775807) :
    Calls Tryz.prog 9 #[.int .i64 cols, v, vv] w fun e w' => ∃ b, e = .returned (.bool b) ∧ MeetsB cols F L b ∧ Below w.heap.size w w' := by
  have HR := hidG h
  have HV := hidG hv
  have HSM := hidG hs
  have HSV := hidG hsv
  have HT := hidG hT
  obtain ⟨p, c, rfl, l1, m1, r1⟩ := h
  obtain ⟨pv, cv, rfl, l2, m2, r2⟩ := hv
  unfold maxLen at m1 m2
  have H1 := hidG r1
  have hl := hs.1
  have hlv := hsv.1
  clear r1 r2 hs hsv hT
  go_enter Tryz.func9, Tryz.ntmps9
  go_wp2_with fail
  refine (goodRows_impl cols _ F w HR.out HSM.out hc1 hc2).mono ?_
  rintro e w1 ⟨rfl, hb1⟩
  have HB1 := hidG hb1
  clear hb1
  cases hg : goodR cols F with
  | false =>
    have HM : Hid (MeetsB cols F L false) := ⟨fun _ => rfl, fun _ => rfl, fun h => by rw [hg] at h; cases h⟩
    clear hg
    go_wp2_with fail
    go_ret
    exact ⟨false, rfl, HM.out, HB1.out⟩
  | true =>
  by_cases hcol : (L.length : Int) = cols
  · have yc : ((L.length : Int) == cols) = true := by simpa using hcol
    have HG := hidG hg
    have HCL := hidG hcol
    have h20 : 0 ≤ cols ∧ cols ≤ 20 ∧ F.length ≤ 50 ∧ F.all (rowOk cols) = true := by
      unfold goodR at hg
      obtain ⟨g1, g2⟩ := Bool.and_eq_true_iff.1 hg
      have := of_decide_eq_true g1
      exact ⟨this.1, this.2.1, this.2.2, g2⟩
    obtain ⟨q0, q1, q2, q3⟩ := h20
    have HALL := hidG q3
    have hL20 : L.length ≤ 20 := by omega
    clear hg q3
    go_wp2_with fail
    refine (commonNumbers_any _ L w1 (HV.out.below HB1.out) HSV.out hL20 (HT.out.below HB1.out)).mono ?_
    rintro e w2 ⟨(⟨hno, vn, zd, rfl, ⟨a1, a2, a3, rfl⟩, t1, t2, t3, t4, rfl⟩ | ⟨V, N, D, vn, zd, hVl, hVr, rfl, hrow, hdiv, hcom⟩), hb2⟩
    · have HM : Hid (MeetsB cols F L false) := ⟨fun _ => rfl, fun _ => rfl, fun _ _ V N D hVl hVr _ => by
        obtain ⟨s, hs, hn⟩ := hno
        obtain ⟨j, hj, rfl⟩ := List.getElem_of_mem hs
        exact absurd (hVr j hj (by omega)) (hn _ _)⟩
      have HB2 : Hid (Below w.heap.size w w2) := HB1.out.trans (hb2.mono HB1.out.size)
      have HBA : Hid (∀ o, Below w.heap.size w (w2.alloc o)) := fun o => HB2.out.alloc HB2.out.size o
      clear hno hb2
      go_wp2_with fail
      go_ret
      exact ⟨false, rfl, HM.out, HBA.out _⟩
    · obtain ⟨sD, pD, lD, cD, rfl⟩ := hdiv.shape
      obtain ⟨na, nb, rfl⟩ : ∃ a b, vn = .slice a N.length b := by
        obtain ⟨xs, hr, _⟩ := hrow
        rcases hr.2 with ⟨e, e2⟩ | ⟨g, cap, cur, e, _⟩
        · exact ⟨none, 0, by rw [e, e2]⟩
        · exact ⟨_, _, e⟩
      have HB2 : Hid (Below w.heap.size w w2) := HB1.out.trans (hb2.mono HB1.out.size)
      obtain ⟨W3, hW3⟩ : ∃ W3, w2.alloc (.cells #[.bool sD, .slice pD lD cD] 52) = W3 := ⟨_, rfl⟩
      have hB3 : Below w2.heap.size w2 W3 := by rw [← hW3]; exact below_alloc _ _
      have HX3 : Hid (Bx W3 w2.heap.size [.bool sD, .slice pD lD cD]) := by unfold Hid; rw [← hW3]; exact bx_new w2 _ _
      have HW3 := hidG hW3
      have HROW := hidG (hrow.below hB3)
      have HDIV := hidG (hdiv.below hB3)
      have HBB : Hid (w1.heap.size + 1 ≤ W3.heap.size) := by
        have h1 := hb2.size
        have h2 := HX3.out.lt
        unfold Hid
        omega
      have HB3 : Hid (Below w.heap.size w W3) := HB2.out.trans (hB3.mono HB2.out.size)
      have hNL : N.length = L.length := by rw [hcom.1, hVl]
      have HM : Hid (∀ b, b = ansM F N D → MeetsB cols F L b) := fun b hb => ⟨fun hn => absurd ⟨HG.out, HCL.out⟩ hn, fun ⟨s, hs, hn⟩ => by
          obtain ⟨j, hj, rfl⟩ := List.getElem_of_mem hs
          exact absurd (hVr j hj (by omega)) (hn _ _), fun _ _ V' N' D' hVl' hVr' hcom' => by
        have hVV : V = V' := List.ext_getElem (by omega) fun i h1 h2 => by
          have := (hVr i (by omega) h1).one (hVr' i (by omega) h2)
          exact Prod.ext this.1 this.2
        subst hVV
        rw [hb]
        exact ansM_same hcom hcom' (fun i hi => (hVr i (by omega) hi).pos)⟩
      have HNL := hidG hNL
      have hN20 : N.length ≤ 20 := by omega
      clear hrow hdiv hb2 hB3 hW3 hNL hVl hVr hcom
      go_wp2_with (rw [HW3.out])
      go_loopw [32] (fun iv wr => ∃ i : Nat, i ≤ F.length ∧ iv = .int .i64 (i : Nat) ∧ (∀ j (_ : j < F.length), j < i → metF N D F[j] = true) ∧ Below W3.heap.size W3 wr) (fun iv _ => F.length - (intOf iv).toNat)
      case atStart => exact ⟨0, Nat.zero_le _, rfl, fun j _ h => absurd h (Nat.not_lt_zero _), Below.refl _ _⟩
      case round =>
        rename World => wo
        obtain ⟨i, hi, rfl, hall, hBo⟩ := hrel
        have HAL := hidG hall
        have HBO := hidG hBo
        have HBW : Hid (Below w.heap.size w wo) := HB3.out.trans (hBo.mono HB3.out.size)
        clear hall
        by_cases hlt : i < F.length
        · obtain ⟨b, rfl, hb, hA⟩ : ∃ b, p = some ⟨b, 0, none⟩ ∧ b < w.heap.size ∧ ∀ i (h : i < F.length), (∃ va, w.cell? ⟨b, i * 3, none⟩ = some va ∧ StrsAt w va F[i].cs) ∧ w.cell? ⟨b, i * 3 + 1, none⟩ = some (.bool F[i].st) ∧ w.cell? ⟨b, i * 3 + 2, none⟩ = some (.string (strOf F[i].bd)) := by
            rcases H1.out with h | h
            · rw [h] at hlt; exact absurd hlt (Nat.not_lt_zero _)
            · exact h
          obtain ⟨⟨va, k0, hva⟩, k1, k2⟩ := hA i hlt
          rw [← HBW.out.cell (p := ⟨b, i * 3, none⟩) hb] at k0
          rw [← HBW.out.cell (p := ⟨b, i * 3 + 1, none⟩) hb] at k1
          rw [← HBW.out.cell (p := ⟨b, i * 3 + 2, none⟩) hb] at k2
          have hro := List.all_eq_true.1 HALL.out _ (List.getElem_mem hlt)
          have HSF := hidG (HSM.out.2 _ (List.getElem_mem hlt))
          have HNOT : Hid (metF N D F[i] = false → ansM F N D = false) := fun h => by
            rw [ansM_metF, Bool.eq_false_iff]
            intro hh
            have := List.all_eq_true.1 hh F[i] (List.getElem_mem hlt)
            rw [h] at this
            cases this
          have HNX : Hid (metF N D F[i] = true → ∀ j (_ : j < F.length), j < i + 1 → metF N D F[j] = true) := fun h j hj hji => by
            by_cases e : j = i
            · subst e; exact h
            · exact HAL.out j hj (by omega)
          obtain ⟨f, hf⟩ : ∃ f, F[i] = f := ⟨_, rfl⟩
          rw [hf] at k1 k2 hva hro HSF HNOT HNX
          unfold rowOk at hro
          obtain ⟨hro1, hro3⟩ := Bool.and_eq_true_iff.1 hro
          obtain ⟨hro1, hro2⟩ := Bool.and_eq_true_iff.1 hro1
          have hro1 := of_decide_eq_true hro1
          have HLF : Hid (f.cs.length = N.length) := by have := HNL.out; have := HCL.out; unfold Hid; omega
          have HO3 := hidG hro3
          have HO2 := hidG hro2
          have HVA := hidG (hva.below HBW.out)
          obtain ⟨pa, ca, rfl, va1, va2, va3⟩ := hva
          unfold maxLen at va2
          obtain ⟨W4, hW4⟩ : ∃ W4, wo.alloc (.cells #[.slice pa f.cs.length ca, .bool f.st, .string (strOf f.bd)] 48) = W4 := ⟨_, rfl⟩
          have hB4 : Below wo.heap.size wo W4 := by rw [← hW4]; exact below_alloc _ _
          have hX4 : Bx W4 wo.heap.size [.slice pa f.cs.length ca, .bool f.st, .string (strOf f.bd)] := by rw [← hW4]; exact bx_new wo _ _
          have HW4 := hidG hW4
          have hX3 := (HX3.out.below HX3.out.lt hBo).below (HX3.out.below HX3.out.lt hBo).lt hB4
          obtain ⟨d0, d1⟩ := hX3.c2
          obtain ⟨y0, y1, y2⟩ := hX4.c3
          have HB4 : Hid (Below W3.heap.size W3 W4) := hBo.trans (hB4.mono hBo.size)
          have HBW4 : Hid (Below w.heap.size w W4) := HB3.out.trans (HB4.out.mono HB3.out.size)
          have HVA4 := hidG (HVA.out.below hB4)
          have hz4 : w1.heap.size + 1 ≤ W4.heap.size := by have := HBB.out; have := HB4.out.size; omega
          clear hf hA va3 hW4 hB4 hX4 hX3 hBo hro hro1 hro2 hro3
          go_wp2_with (rw [HW4.out])
          refine (isMet_any f _ _ N D sD pD lD cD (w1.heap.size + 1) W4 HVA4.out (HT.out.below HBW4.out) hz4 (HROW.out.below HB4.out) (HDIV.out.below HB4.out) HLF.out hN20 HO3.out HO2.out HSF.out).mono ?_
          rintro e w5 ⟨rfl, hb5⟩
          have HB5 : Hid (Below W3.heap.size W3 w5) := HB4.out.trans (hb5.mono HB4.out.size)
          have HBW5 : Hid (Below w.heap.size w w5) := HB3.out.trans (HB5.out.mono HB3.out.size)
          clear hb5
          cases hm : metF N D f with
          | false =>
            have HRR := hidG (HNOT.out hm)
            have hm' : metB (dotN (coefs f) (numsOf N) N.length) (numT (strOf f.bd) * D) f.st = false := hm
            rw [hm']
            clear hm hm'
            go_wp2_with fail
            go_ret
            exact ⟨false, rfl, HM.out false HRR.out.symm, HBW5.out⟩
          | true =>
            have HTT := hidG (HNX.out hm)
            have hm' : metB (dotN (coefs f) (numsOf N) N.length) (numT (strOf f.bd) * D) f.st = true := hm
            rw [hm']
            clear hm hm'
            go_wp2_with fail
            go_roundw
            case rel => exact ⟨i + 1, by omega, by go_num, HTT.out, HB5.out⟩
            case measure => simp [intOf]; omega
        · have hie : i = F.length := by omega
          subst hie
          have HRR : Hid (ansM F N D = true) := by
            unfold Hid
            rw [ansM_metF, List.all_eq_true]
            intro f hf
            obtain ⟨j, hj, rfl⟩ := List.getElem_of_mem hf
            exact HAL.out j hj hj
          clear hBo
          go_wp2_with fail
          go_ret
          exact ⟨true, rfl, HM.out true HRR.out.symm, HBW.out⟩
  · have yc : ((L.length : Int) == cols) = false := by simpa using hcol
    have HM : Hid (MeetsB cols F L false) := ⟨fun _ => rfl, fun _ => rfl, fun _ h => absurd h hcol⟩
    clear hg
    go_wp2_with fail
    go_ret
    exact ⟨false, rfl, HM.out, HB1.out⟩
end Go.Proofs.YtpimiboiogfhbaaGreatDoor.L
