import Derived.Test.YtpimiboiogfhbaaGreatDoorMtAB
import Derived.Test.YtpimiboiogfhbaaGreatDoorLrGH
import Derived.Test.YtpimiboiogfhbaaGreatDoorU7
import Derived.Test.YtpimiboiogfhbaaGreatDoorSumT
namespace Go.Proofs.YtpimiboiogfhbaaGreatDoor.L
open Go.ChangeShapes Go.WideShapes Go.ChangeAt Go.RowKit
theorem readI_any (s : List UInt8) (w : World) (hs : s.length ≤ 1048576) (ht : textOk s = true) :
    Calls Tryz.prog 38 #[.string (strOf s)] w fun e w' => ∃ s1 p l c, e = .returned (.tuple #[.agg #[.bool s1, .slice p l c], .bool true]) ∧ IsI w.heap.size w' (.agg #[.bool s1, .slice p l c]) (numT (strOf s)) 280 ∧ Below w.heap.size w w' := by
  have hi : isIntB (strOf s) = true := by
    unfold textOk at ht
    exact (Bool.and_eq_true_iff.1 ht).1
  refine (readInteger_yes (strOf s) w (by rw [strOf_size]; unfold maxLen; omega) hi).mono ?_
  rintro e w' ⟨v, rfl, hv, hb⟩
  have hv0 := hv
  obtain ⟨p, c, rfl, -⟩ := hv0
  exact ⟨_, p, _, c, rfl, ⟨isNeg (strOf s), _, lim (strOf s), rfl, hv, trimL_trim _, rfl, lim_len' _ hi⟩, hb⟩
/-- A sum of so many products. -/
def dotN (a n : Nat → Int) : Nat → Int
  | 0 => 0
  | k + 1 => dotN a n k + a k * n k
theorem dotN_lt {a n : Nat → Int} (ha : ∀ i, (a i).natAbs < lb 280) (hn : ∀ i, (n i).natAbs < lb 6300) : ∀ k, (dotN a n k).natAbs < lb (6580 + k)
  | 0 => Nat.lt_trans Nat.zero_lt_one (lb_one _ (by omega))
  | k + 1 => by
    refine Nat.lt_of_le_of_lt (Int.natAbs_add_le _ _) (lb_add (6580 + k) (dotN_lt ha hn k) ?_)
    rw [Int.natAbs_mul]
    exact lb_le (280 + 6300) (6580 + k) (by omega) (lb_mul 280 6300 (ha k) (hn k))
def coefs (f : Lr) (i : Nat) : Int := numT (strOf (f.cs.getD i [48]))
def numsOf (N : List Int) (i : Nat) : Int := N.getD i 0
def metB (S T : Int) (st : Bool) : Bool := decide (S < T) || (decide (S = T) && !st)
theorem ordI_three (x y : Int) : ordI x y = -1 ∨ ordI x y = 0 ∨ ordI x y = 1 := by
  unfold ordI
  split
  · exact .inl rfl
  · split
    · exact .inr (.inr rfl)
    · exact .inr (.inl rfl)
/-- What an order tells of a row. -/
def ordB (r : Int) (st : Bool) : Bool := decide (r < 0) || (decide (r = 0) && !st)
theorem metB_ord (x y : Int) (st : Bool) : metB x y st = ordB (ordI x y) st := by
  unfold metB ordB ordI
  by_cases h1 : x < y
  · simp [h1]
  · by_cases h2 : y < x
    · have h3 : ¬ x = y := by omega
      simp [h1, h2, h3]
    · have h3 : x = y := by omega
      simp [h3]
theorem isI_lt {B : Nat} {W : World} {z : Value} {x : Int} {n : Nat} (h : IsI B W z x n) : x.natAbs < lb n := by
  obtain ⟨neg, v, t, -, ⟨_, _, _, _, _, hok, _⟩, _, rfl, hl⟩ := h
  rw [sg_abs]
  exact val_lb t hok n hl
theorem IntRow.lt {base : Nat} {W : World} {v : Value} {N : List Int} {m : Nat} (h : IntRow base W v N m) (hm : 0 < m) : ∀ i, (numsOf N i).natAbs < lb m := by
  obtain ⟨xs, h1, h2⟩ := h
  intro i
  unfold numsOf
  by_cases hi : i < N.length
  · obtain ⟨s, p, l, c, e1, e2, hI, _⟩ := h2 i hi
    rw [List.getD_eq_getElem?_getD, List.getElem?_eq_getElem hi]
    exact isI_lt hI
  · rw [List.getD_eq_getElem?_getD, List.getElem?_eq_none (by omega)]
    exact Nat.lt_trans Nat.zero_lt_one (lb_one _ hm)
theorem coefs_lt {f : Lr} (h : f.cs.all textOk = true) (i : Nat) : (coefs f i).natAbs < lb 280 := by
  unfold coefs
  refine numT_lt _ ?_
  rw [List.getD_eq_getElem?_getD]
  by_cases hi : i < f.cs.length
  · rw [List.getElem?_eq_getElem hi]
    have := List.all_eq_true.1 h _ (List.getElem_mem hi)
    unfold textOk at this
    exact (Bool.and_eq_true_iff.1 this).1
  · rw [List.getElem?_eq_none (by omega)]
    kernel_rfl
theorem isI_zero (B : Nat) (W : World) (n : Nat) : IsI B W (.agg #[.bool false, .slice none 0 0]) 0 n :=
  ⟨false, _, [], rfl, ⟨none, 0, rfl, Nat.le_refl _, Nat.zero_le _, (fun _ h => by cases h), .inl rfl⟩, (fun h => absurd rfl h), rfl, Nat.zero_le _⟩
/-- The loop's state. -/
structure MS (w : World) (row : List Value) (dv : List Value) (X : Int) (s : Bool) (p : Option Addr) (l c : Nat) (W : World) : Prop where
  rbx : Bx W w.heap.size row
  dbx : Bx W (w.heap.size + 1) dv
  sbx : Bx W (w.heap.size + 1 + 1) [.bool s, .slice p l c]
  sum : IsI (w.heap.size + 1 + 1 + 1) W (.agg #[.bool s, .slice p l c]) X 6700
  bel : Below w.heap.size w W
theorem MS.below {w : World} {row dv : List Value} {X : Int} {s : Bool} {p : Option Addr} {l c : Nat} {W W' : World} (h : MS w row dv X s p l c W) (hb : Below W.heap.size W W') : MS w row dv X s p l c W' :=
  ⟨h.rbx.below h.rbx.lt hb, h.dbx.below h.dbx.lt hb, h.sbx.below h.sbx.lt hb, h.sum.below hb, h.bel.trans (hb.mono h.bel.size)⟩
set_option maxRecDepth 100000 in
set_option maxHeartbeats 4000000 in
theorem isMet_any (f : Lr) (va nv : Value) (N : List Int) (D : Int) (sD : Bool) (pD : Option Addr) (lD cD base : Nat) (w : World) (hcs : StrsAt w va f.cs) (hT : Tabs w) (_hbase : base ≤ w.heap.size) (hN : IntRow base w nv N 6300) (hD : IsI base w (.agg #[.bool sD, .slice pD lD cD]) D 6300) (hlen : f.cs.length = N.length) (h20 : N.length ≤ 20) (hok : f.cs.all textOk = true) (hbd : textOk f.bd = true) (hs : SmallR f) :
    Calls Tryz.prog 21 #[.agg #[va, .bool f.st, .string (strOf f.bd)], nv, .agg #[.bool sD, .slice pD lD cD]] w fun e w' => e = .returned (.bool (metB (dotN (coefs f) (numsOf N) N.length) (numT (strOf f.bd) * D) f.st)) ∧ Below w.heap.size w w' := by
  have HCS := hidG hcs
  have HT := hidG hT
  have HN := hidG hN
  have HD := hidG hD
  have HOK := hidG hok
  have HBD := hidG hbd
  have HS := hidG hs
  have HLN := hidG hlen
  obtain ⟨pv, cv, rfl, v1, v2, v3⟩ := hcs
  unfold maxLen at v2
  have H3 := hidG v3
  obtain ⟨na, nb, rfl⟩ : ∃ a b, nv = .slice a N.length b := by
    obtain ⟨xs, hr, _⟩ := hN
    rcases hr.2 with ⟨e, e2⟩ | ⟨g, cap, cur, e, _⟩
    · exact ⟨none, 0, by rw [e, e2]⟩
    · exact ⟨_, _, e⟩
  have hl20 : f.cs.length ≤ 20 := by omega
  clear v3 hN hD hok hbd hs hT hlen
  go_enter Tryz.func21, Tryz.ntmps21
  go_wp2_with fail
  obtain ⟨W3, hW3, hb3, x1, x2, x3, hs3⟩ := box3 w [.slice pv f.cs.length cv, .bool f.st, .string (strOf f.bd)] [.bool sD, .slice pD lD cD] [.bool false, .slice none 0 0] 48 52 52
  rw [hW3]
  have HM0 : Hid (MS w [.slice pv f.cs.length cv, .bool f.st, .string (strOf f.bd)] [.bool sD, .slice pD lD cD] 0 false none 0 0 W3) := ⟨x1, x2, x3, isI_zero _ _ _, hb3⟩
  clear hW3 hb3 x1 x2 x3 hs3
  go_loopw [18] (fun iv wr => ∃ (k : Nat) (s : Bool) (p : Option Addr) (l c : Nat), k ≤ f.cs.length ∧ iv = .int .i64 (k : Nat) ∧ MS w [.slice pv f.cs.length cv, .bool f.st, .string (strOf f.bd)] [.bool sD, .slice pD lD cD] (dotN (coefs f) (numsOf N) k) s p l c wr) (fun iv _ => f.cs.length - (intOf iv).toNat)
  case atStart => exact ⟨0, false, none, 0, 0, Nat.zero_le _, rfl, HM0.out⟩
  case round =>
    rename World => wo
    obtain ⟨k, s, q, l, c, hk, rfl, hM⟩ := hrel
    have HM := hidG hM
    clear HM0
    by_cases hlt : k < f.cs.length
    · obtain ⟨b, rfl, hb, hA⟩ : ∃ b, pv = some ⟨b, 0, none⟩ ∧ b < w.heap.size ∧ ∀ i (h : i < f.cs.length), w.cell? ⟨b, i, none⟩ = some (.string (strOf f.cs[i])) := by
        rcases H3.out with h | h
        · rw [h] at hlt; exact absurd hlt (Nat.not_lt_zero _)
        · exact h
      have k0 := hA k hlt
      rw [← hM.bel.cell (p := ⟨b, k, none⟩) hb] at k0
      have HCK : Hid (coefs f k = numT (strOf f.cs[k])) := by unfold Hid coefs; rw [List.getD_eq_getElem?_getD, List.getElem?_eq_getElem hlt]; rfl
      have HRD : Hid (∀ W, Calls Tryz.prog 38 #[.string (strOf f.cs[k])] W fun e w' => ∃ s1 p l c, e = .returned (.tuple #[.agg #[.bool s1, .slice p l c], .bool true]) ∧ IsI W.heap.size w' (.agg #[.bool s1, .slice p l c]) (coefs f k) 280 ∧ Below W.heap.size W w') := fun W => by
        rw [HCK.out]
        exact readI_any _ W (HS.out.1.2 _ (List.getElem_mem hlt)) (List.all_eq_true.1 HOK.out _ (List.getElem_mem hlt))
      have hkN : k < N.length := by have := HLN.out; omega
      obtain ⟨S, hS⟩ : ∃ S, strOf f.cs[k] = S := ⟨_, rfl⟩
      rw [hS] at k0 HRD
      clear hA hS hM
      go_wp2_with fail
      refine (HRD.out _).mono ?_
      rintro e w1 ⟨s1, p1, l1, c1, rfl, hf, hb1⟩
      obtain ⟨W2, hW2⟩ : ∃ W2, w1.alloc (.cells #[.bool s1, .slice p1 l1 c1] 52) = W2 := ⟨_, rfl⟩
      have hB2 : Below w1.heap.size w1 W2 := by rw [← hW2]; exact below_alloc _ _
      have hX2 : Bx W2 w1.heap.size [.bool s1, .slice p1 l1 c1] := by rw [← hW2]; exact bx_new w1 _ _
      have HW2 := hidG hW2
      have hM2 := (HM.out.below hb1).below hB2
      have HM2 := hidG hM2
      have HF2 := hidG (hf.below hB2)
      have hws : w.heap.size + 1 + 1 + 1 ≤ wo.heap.size := HM.out.sbx.lt
      have hw12 : wo.heap.size ≤ w1.heap.size := hb1.size
      have hw2 : w1.heap.size < W2.heap.size := hX2.lt
      have hN2 := HN.out.below hM2.bel
      obtain ⟨xs, hr, hel⟩ := hN2
      obtain ⟨g, rfl⟩ : ∃ g, na = some ⟨g, 0, none⟩ := by
        rcases hr.2 with ⟨_, e2⟩ | ⟨g, cap, cur, e, _⟩
        · omega
        · cases e; exact ⟨g, rfl⟩
      obtain ⟨s3, p3, l3, c3, e1, e2, h3I, -⟩ := hel k hkN
      have k1 := hr.cellAt (k * 2) (by omega)
      have k2 := hr.cellAt (k * 2 + 1) (by omega)
      rw [e1] at k1
      rw [e2] at k2
      have hgw : g < W2.heap.size := (hr.lt g rfl).2
      obtain ⟨y0, y1⟩ := hX2.c2
      obtain ⟨z0, z1⟩ := hM2.sbx.c2
      have HCC : Hid (∀ W, Below W2.heap.size W2 W → (W.cell? ⟨g, k * 2, none⟩ = some (.bool s3) ∧ W.cell? ⟨g, k * 2 + 1, none⟩ = some (.slice p3 l3 c3)) ∧ (W.cell? ⟨w1.heap.size, 0, none⟩ = some (.bool s1) ∧ W.cell? ⟨w1.heap.size, 1, none⟩ = some (.slice p1 l1 c1)) ∧ (W.cell? ⟨w.heap.size + 1 + 1, 0, none⟩ = some (.bool s) ∧ W.cell? ⟨w.heap.size + 1 + 1, 1, none⟩ = some (.slice q l c)) ∧ W.frozen? ⟨w.heap.size + 1 + 1, 0, none⟩ = false ∧ W.frozen? ⟨w.heap.size + 1 + 1, 1, none⟩ = false) := fun W hW => by
        have hx := hX2.below hX2.lt hW
        have hy := hM2.sbx.below hM2.sbx.lt hW
        exact ⟨⟨(hW.cell (p := ⟨g, k * 2, none⟩) hgw).trans k1, (hW.cell (p := ⟨g, k * 2 + 1, none⟩) hgw).trans k2⟩, hx.c2, hy.c2, hy.frozen 0, hy.frozen 1⟩
      have HNk : Hid (N[k] = numsOf N k) := by unfold Hid numsOf; rw [List.getD_eq_getElem?_getD, List.getElem?_eq_getElem hkN]; rfl
      have HTB : Hid (∀ W, Below w.heap.size w W → SP W) := fun W hW => (HT.out.below hW).1
      have HTM : Hid (∀ W, Below W2.heap.size W2 W → Calls Tryz.prog 37 #[.agg #[.bool s1, .slice p1 l1 c1], .agg #[.bool s3, .slice p3 l3 c3]] W fun e w' => ∃ z, e = .returned z ∧ IsI W.heap.size w' z (coefs f k * numsOf N k) 6580 ∧ Below W.heap.size W w') := fun W hW => by
        rw [HNk.out] at h3I
        exact times_any 0 _ _ _ _ 280 6300 W ((HF2.out.mono (Nat.zero_le _) (Nat.le_refl _)).below hW) ((h3I.mono (Nat.zero_le _) (Nat.le_refl _)).below hW) (by omega) (by omega) (HTB.out _ (HM2.out.bel.trans (hW.mono HM2.out.bel.size)))
      have HPL : Hid (∀ W z, Below W2.heap.size W2 W → IsI W2.heap.size W z (coefs f k * numsOf N k) 6580 → Calls Tryz.prog 39 #[.agg #[.bool s, .slice q l c], z] W fun e w' => ∃ z', e = .returned z' ∧ IsI W.heap.size w' z' (dotN (coefs f) (numsOf N) (k + 1)) 6700 ∧ Below W.heap.size W w') := fun W z hW hz => by
        refine (plus_any 0 _ _ _ _ 6700 6580 W ((HM2.out.sum.mono (Nat.zero_le _) (Nat.le_refl _)).below hW) (hz.mono (Nat.zero_le _) (Nat.le_refl _)) (by omega) (by omega) (HTB.out _ (HM2.out.bel.trans (hW.mono HM2.out.bel.size)))).mono ?_
        rintro e w' ⟨z', rfl, hz', hb⟩
        have hlt := dotN_lt (coefs_lt HOK.out) (HN.out.lt (by decide)) (k + 1)
        exact ⟨z', rfl, (IsI.tight (k := 6580 + (k + 1)) hz' hlt).mono (Nat.le_refl _) (by omega), hb⟩
      have HNEW : Hid (∀ w4 s4 p4 l4 c4, Below W2.heap.size W2 w4 → IsI W2.heap.size w4 (.agg #[.bool s4, .slice p4 l4 c4]) (dotN (coefs f) (numsOf N) (k + 1)) 6700 → MS w [.slice (some ⟨b, 0, none⟩) f.cs.length cv, .bool f.st, .string (strOf f.bd)] [.bool sD, .slice pD lD cD] (dotN (coefs f) (numsOf N) (k + 1)) s4 p4 l4 c4 ((w4.setCell ⟨w.heap.size + 1 + 1, 0, none⟩ (.bool s4)).setCell ⟨w.heap.size + 1 + 1, 1, none⟩ (.slice p4 l4 c4))) := fun w4 s4 p4 l4 c4 hb4 hz4 => by
        have h4 := HM2.out.below hb4
        exact ⟨bx_far h4.rbx (by omega) _ _ _ _, bx_far h4.dbx (by omega) _ _ _ _, (h4.sbx.set 0 _).set 1 _, ((hz4.mono (B' := w.heap.size + 1 + 1 + 1) (by omega) (Nat.le_refl _)).setC ⟨w.heap.size + 1 + 1, 0, none⟩ _ (Nat.lt_succ_self _)).setC ⟨w.heap.size + 1 + 1, 1, none⟩ _ (Nat.lt_succ_self _), (h4.bel.setCell (p := ⟨w.heap.size + 1 + 1, 0, none⟩) (by show _ ≤ w.heap.size + 1 + 1; omega) _).setCell (p := ⟨w.heap.size + 1 + 1, 1, none⟩) (by show _ ≤ w.heap.size + 1 + 1; omega) _⟩
      clear hel e1 e2 hr h3I hX2 hM2 hB2 hW2 hf hb1
      go_wp2_with (rw [HW2.out])
      go_region_with (first
        | (go_at_call 37; refine (HTM.out _ (Below.refl _ _).drew).mono ?_; rintro e w3 ⟨zp, rfl, hz, hb⟩; have HB3 : Hid (Below W2.heap.size W2 w3) := (Below.refl _ _).drew.trans hb; have HZ3 := hidG hz; obtain ⟨s5, p5, l5, c5, rfl⟩ := hz.shape; obtain ⟨⟨m1, m2⟩, ⟨m3, m4⟩, ⟨m5, m6⟩, m7, m8⟩ := HCC.out w3 HB3.out; clear hz hb)
        | (go_at_call 39; refine (HPL.out _ _ HB3.out HZ3.out).mono ?_; rintro e w4 ⟨zs, rfl, hz, hb⟩; have HB4 : Hid (Below W2.heap.size W2 w4) := HB3.out.trans (hb.mono HB3.out.size); have HZ4 := hidG (hz.mono HB3.out.size (Nat.le_refl _)); obtain ⟨s4, p4, l4, c4, rfl⟩ := hz.shape; obtain ⟨⟨m1, m2⟩, ⟨m3, m4⟩, ⟨m5, m6⟩, m7, m8⟩ := HCC.out w4 HB4.out; clear hz hb))
      all_goals
        go_wp2_with fail
        go_roundw
        case rel => exact ⟨k + 1, _, _, _, _, by omega, by go_num, HNEW.out w4 s4 p4 l4 c4 HB4.out HZ4.out⟩
        case measure => simp [intOf]; omega
    · have hie : k = N.length := by have := HLN.out; omega
      rw [hie] at HM
      obtain ⟨r0, r1, r2⟩ := hM.rbx.c3
      clear hM hie
      go_wp2_with fail
      refine (readI_any f.bd wo HS.out.2 HBD.out).mono ?_
      rintro e w1 ⟨s1, p1, l1, c1, rfl, hf, hb1⟩
      obtain ⟨W2, hW2⟩ : ∃ W2, w1.alloc (.cells #[.bool s1, .slice p1 l1 c1] 52) = W2 := ⟨_, rfl⟩
      have hB2 : Below w1.heap.size w1 W2 := by rw [← hW2]; exact below_alloc _ _
      have hX2 : Bx W2 w1.heap.size [.bool s1, .slice p1 l1 c1] := by rw [← hW2]; exact bx_new w1 _ _
      have HW2 := hidG hW2
      have hM2 := (HM.out.below hb1).below hB2
      have HM2 := hidG hM2
      have HF2 := hidG (hf.below hB2)
      have HD2 := hidG (HD.out.below hM2.bel)
      have HTB : Hid (∀ W, Below w.heap.size w W → SP W) := fun W hW => (HT.out.below hW).1
      have HCC : Hid (∀ W, Below W2.heap.size W2 W → (W.cell? ⟨w1.heap.size, 0, none⟩ = some (.bool s1) ∧ W.cell? ⟨w1.heap.size, 1, none⟩ = some (.slice p1 l1 c1)) ∧ (W.cell? ⟨w.heap.size + 1 + 1, 0, none⟩ = some (.bool s) ∧ W.cell? ⟨w.heap.size + 1 + 1, 1, none⟩ = some (.slice q l c)) ∧ (W.cell? ⟨w.heap.size + 1, 0, none⟩ = some (.bool sD) ∧ W.cell? ⟨w.heap.size + 1, 1, none⟩ = some (.slice pD lD cD)) ∧ W.cell? ⟨w.heap.size, 1, none⟩ = some (.bool f.st)) := fun W hW => ⟨(hX2.below hX2.lt hW).c2, (hM2.sbx.below hM2.sbx.lt hW).c2, (hM2.dbx.below hM2.dbx.lt hW).c2, (hM2.rbx.below hM2.rbx.lt hW).c3.2.1⟩
      have HTM : Hid (∀ W, Below W2.heap.size W2 W → Calls Tryz.prog 37 #[.agg #[.bool s1, .slice p1 l1 c1], .agg #[.bool sD, .slice pD lD cD]] W fun e w' => ∃ z, e = .returned z ∧ IsI W.heap.size w' z (numT (strOf f.bd) * D) 6580 ∧ Below W.heap.size W w') := fun W hW =>
        times_any 0 _ _ _ _ 280 6300 W ((HF2.out.mono (Nat.zero_le _) (Nat.le_refl _)).below hW) ((HD2.out.mono (Nat.zero_le _) (Nat.le_refl _)).below hW) (by omega) (by omega) (HTB.out _ (HM2.out.bel.trans (hW.mono HM2.out.bel.size)))
      obtain ⟨r, hr⟩ : ∃ r, ordI (dotN (coefs f) (numsOf N) N.length) (numT (strOf f.bd) * D) = r := ⟨_, rfl⟩
      have HR := hidG hr
      have HCM : Hid (∀ W z, Below W2.heap.size W2 W → IsI W2.heap.size W z (numT (strOf f.bd) * D) 6580 → Calls Tryz.prog 40 #[.agg #[.bool s, .slice q l c], z] W fun e w' => e = .returned (.int .i64 r) ∧ Below W.heap.size W w') := fun W z hW hz => by
        have := compareI_any 0 _ _ _ _ 6700 6580 W ((HM2.out.sum.mono (Nat.zero_le _) (Nat.le_refl _)).below hW) (hz.mono (Nat.zero_le _) (Nat.le_refl _)) (HTB.out _ (HM2.out.bel.trans (hW.mono HM2.out.bel.size)))
        rw [hr] at this
        exact this
      obtain ⟨⟨y0, y1⟩, ⟨z0, z1⟩, ⟨d0, d1⟩, t0⟩ := HCC.out W2 (Below.refl _ _)
      clear hX2 hM2 hB2 hW2 hf hb1 hr
      go_wp2_with (rw [HW2.out])
      go_region_with (first
        | (go_at_call 37; refine (HTM.out _ (Below.refl _ _).drew).mono ?_; rintro e w3 ⟨zp, rfl, hz, hb⟩; have HB3 : Hid (Below W2.heap.size W2 w3) := (Below.refl _ _).drew.trans hb; have HZ3 := hidG hz; obtain ⟨s5, p5, l5, c5, rfl⟩ := hz.shape; obtain ⟨⟨m1, m2⟩, ⟨m3, m4⟩, ⟨m5, m6⟩, m7⟩ := HCC.out w3 HB3.out; clear hz hb)
        | (go_at_call 40; refine (HCM.out _ _ HB3.out HZ3.out).mono ?_; rintro e w4 ⟨rfl, hb⟩; have HB4 : Hid (Below W2.heap.size W2 w4) := HB3.out.trans (hb.mono HB3.out.size); obtain ⟨⟨m1, m2⟩, ⟨m3, m4⟩, ⟨m5, m6⟩, m7⟩ := HCC.out w4 HB4.out; clear hb))
      all_goals
        have HBE : Hid (Below w.heap.size w w4) := HM2.out.bel.trans (HB4.out.mono HM2.out.bel.size)
        have h3 := ordI_three (dotN (coefs f) (numsOf N) N.length) (numT (strOf f.bd) * D)
        rw [HR.out] at h3
        have HMT := hidG (metB_ord (dotN (coefs f) (numsOf N) N.length) (numT (strOf f.bd) * D) f.st)
        rw [HR.out] at HMT
        rcases h3 with rfl | rfl | rfl
        · go_wp2_with fail
          go_ret
          exact ⟨ret_bool HMT.out.symm, HBE.out⟩
        · cases hst : f.st <;> rw [hst] at HMT m7
          all_goals
            have HST := hidG hst
            clear hst
            go_wp2_with fail
            go_ret
            exact ⟨ret_bool (by rw [HST.out]; exact HMT.out.symm), HBE.out⟩
        · go_wp2_with fail
          go_ret
          exact ⟨ret_bool HMT.out.symm, HBE.out⟩
end Go.Proofs.YtpimiboiogfhbaaGreatDoor.L
