import Derived.Test.YtdphpfffofeklaaDoorPtC
namespace Go.Proofs.YtdphpfffofeklaaDoor.P
open Go.ChangeShapes Go.WideShapes Go.ChangeAt Go.RowKit
open L (strOf strOf_toList strOf_size Tn ArgStrs ArgTree hidG below_alloc Bx bx_new SmallS SmallT row_at row_below own_lower own_base own_other' Stays TreeAt box2 box3 bx_far bx_one eqTreeNodeS_same up_alloc)
theorem info_lem0 : (Tryd.prog.info? 40).map (fun i => (i.zero, i.size, i.bytes)) = some (some (.agg #[.int .i64 0, .slice none 0 0, .slice none 0 0, .slice none 0 0]), 4, 80) := by kernel_rfl
theorem info_lem : ∃ i : TypeInfo, Tryd.prog.info? 40 = some i ∧ i.zero = some (.agg #[.int .i64 0, .slice none 0 0, .slice none 0 0, .slice none 0 0]) ∧ i.size = 4 ∧ i.bytes = 80 := info_parts info_lem0
def LemR (w : World) (b o : Nat) (l : Lm) : Prop :=
  w.cell? ⟨b, o, none⟩ = some (.int .i64 l.kind) ∧ ∃ va vb vc, w.cell? ⟨b, o + 1, none⟩ = some va ∧ w.cell? ⟨b, o + 2, none⟩ = some vb ∧ w.cell? ⟨b, o + 3, none⟩ = some vc ∧ IntsAt w va l.lits ∧ IntsAt w vb l.chain ∧ TreeAt w vc l.tree
theorem LemR.below {w w' : World} {b off : Nat} {l : Lm} (h : LemR w b off l) (hlt : b < w.heap.size) (hb : Below w.heap.size w w') : LemR w' b off l := by
  obtain ⟨k0, va, vb, vc, k1, k2, k3, h1, h2, h3⟩ := h
  exact ⟨(hb.cell (p := ⟨b, off, none⟩) hlt).trans k0, va, vb, vc, (hb.cell (p := ⟨b, off + 1, none⟩) hlt).trans k1, (hb.cell (p := ⟨b, off + 2, none⟩) hlt).trans k2, (hb.cell (p := ⟨b, off + 3, none⟩) hlt).trans k3, h1.below hb, h2.below hb, h3.below hb⟩
def LemsAt (w : World) (v : Value) (F : List Lm) : Prop :=
  ∃ p c, v = .slice p F.length c ∧ F.length ≤ c ∧ c ≤ maxLen ∧ (F = [] ∨ ∃ b, p = some ⟨b, 0, none⟩ ∧ b < w.heap.size ∧ ∀ i (h : i < F.length), LemR w b (i * 4) F[i])
theorem LemsAt.below {w w' : World} {v : Value} {F : List Lm} (h : LemsAt w v F) (hb : Below w.heap.size w w') : LemsAt w' v F := by
  obtain ⟨a, c, rfl, h1, h2, h4⟩ := h
  refine ⟨a, c, rfl, h1, h2, ?_⟩
  rcases h4 with h | ⟨b, rfl, hlt, hA⟩
  · exact .inl h
  · exact .inr ⟨b, rfl, Nat.lt_of_lt_of_le hlt hb.size, fun i hi => (hA i hi).below hlt hb⟩
def LaidL (wr : World) (N : Nat) (xs : List Value) (F : List Lm) (i : Nat) : Prop :=
  ∀ j (h : j < F.length), j < i → xs[j * 4]? = some (.int .i64 F[j].kind) ∧ ∃ va vb vc, xs[j * 4 + 1]? = some va ∧ xs[j * 4 + 2]? = some vb ∧ xs[j * 4 + 3]? = some vc ∧ LemN wr N va vb vc F[j]
theorem LaidL.next {wr wr' : World} {N : Nat} {xs : List Value} {F : List Lm} {i : Nat} (hx : xs.length = F.length * 4) (h : LaidL wr N xs F i) (hi : i < F.length) {va vb vc : Value} (hs : wr.heap.size ≤ wr'.heap.size) (hk : ∀ k, N ≤ k → k < wr.heap.size → wr'.heap[k]? = wr.heap[k]?) (hva : LemN wr' N va vb vc F[i]) :
    LaidL wr' N ((((xs.set (i * 4) (.int .i64 F[i].kind)).set (i * 4 + 1) va).set (i * 4 + 2) vb).set (i * 4 + 3) vc) F (i + 1) := by
  intro j hj hji
  by_cases e : j = i
  · subst e
    refine ⟨?_, va, vb, vc, ?_, ?_, ?_, hva⟩
    · rw [List.getElem?_set_ne (by omega), List.getElem?_set_ne (by omega), List.getElem?_set_ne (by omega), List.getElem?_set_self (by omega)]
    · rw [List.getElem?_set_ne (by omega), List.getElem?_set_ne (by omega), List.getElem?_set_self (by simp; omega)]
    · rw [List.getElem?_set_ne (by omega), List.getElem?_set_self (by simp; omega)]
    · rw [List.getElem?_set_self (by simp; omega)]
  · obtain ⟨h0, ua, ub, uc, h1, h2, h3, hb⟩ := h j hj (by omega)
    refine ⟨?_, ua, ub, uc, ?_, ?_, ?_, hb.keep (Nat.le_refl _) hs hk⟩ <;> rw [List.getElem?_set_ne (by omega), List.getElem?_set_ne (by omega), List.getElem?_set_ne (by omega), List.getElem?_set_ne (by omega)] <;> assumption
set_option maxRecDepth 100000 in
set_option maxHeartbeats 8000000 in
theorem toLemmaS_any (v : Value) (F : List Lm) (w : World) (h : ArgLems w v F) (hs : F.length ≤ 1048576 ∧ ∀ f ∈ F, SmallL f) :
    Calls Tryd.prog 6 #[v] w fun e w' => ∃ v', e = .returned v' ∧ (∃ p c, v' = .slice p F.length c) ∧ LemsAt w' v' F ∧ Below w.heap.size w w' := by
  obtain ⟨a, c, rfl, hc, hc2, -, hA⟩ := h
  unfold maxLen at hc2
  obtain ⟨i0, hinf, hz0, hz1, hz2⟩ := info_lem
  have hnl := hs.1
  have HA := hidG hA
  have HSM := hidG hs.2
  clear hA hs
  go_enter Tryd.func6, Tryd.ntmps6
  go_wp2_with (at_make; refine wpList_make_full _ rfl _ _ 25 rfl w.heap.size 40 i0 _ 4 Tryd.underlying25 hinf hz0 hz1 .i64 .i64 _ _ F.length rfl rfl (by simp) (by simp) (by rw [hz2]; omega) (by unfold maxLen; omega) (Nat.le_refl _) ?_)
  intro w1 hown1 hgr
  have HB1 : Hid (Below w.heap.size w w1) := (Below.refl _ _).grown hgr (Nat.le_refl _) (fun k e => by cases e)
  have HO1 := hidG hown1
  clear hown1 hgr
  go_wp2_with fail
  go_loopw [4] (fun iv wr => ∃ (i : Nat) (xs : List Value), i ≤ F.length ∧ iv = .int .i64 i ∧ LaidL wr (w.heap.size + 1) xs F i ∧ wr.ownsRow w.heap.size 40 4 (.slice (some ⟨w.heap.size, 0, none⟩) F.length F.length) F.length xs ∧ Below w.heap.size w wr) (fun iv _ => F.length - (intOf iv).toNat)
  case atStart => exact ⟨0, _, Nat.zero_le _, rfl, fun j _ h => absurd h (Nat.not_lt_zero _), HO1.out, HB1.out⟩
  case round =>
    obtain ⟨i, xs, hi, rfl, hlaid, hown, hB⟩ := hrel
    have HB := hidG hB
    have HLD := hidG hlaid
    have HXL : Hid (xs.length = F.length * 4) := hown.1
    have HO := hidG hown
    have HLT : Hid (w.heap.size < wr.heap.size) := (hown.lt _ rfl).2
    by_cases hlt : i < F.length
    · obtain ⟨b, off, rfl, hb, hA⟩ : ∃ b off, a = some ⟨b, off, none⟩ ∧ b < w.heap.size ∧ ∀ i (h : i < F.length), LemC w b (off + i * 4) F[i] := by
        rcases HA.out with h | h
        · rw [h] at hlt; exact absurd hlt (Nat.not_lt_zero _)
        · exact h
      obtain ⟨k0, va, vb, vc, k1, k2, k3, hva, hvb, hvc⟩ := (hA i hlt).below hb hB
      have HSF := hidG (HSM.out _ (List.getElem_mem hlt))
      have HNX : Hid (∀ wr' va vb vc, wr.heap.size ≤ wr'.heap.size → (∀ k, w.heap.size + 1 ≤ k → k < wr.heap.size → wr'.heap[k]? = wr.heap[k]?) → LemN wr' (w.heap.size + 1) va vb vc F[i] → LaidL wr' (w.heap.size + 1) ((((xs.set (i * 4) (.int .i64 F[i].kind)).set (i * 4 + 1) va).set (i * 4 + 2) vb).set (i * 4 + 3) vc) F (i + 1)) := fun wr' va vb vc hs hk hv => LaidL.next HXL.out HLD.out hlt hs hk hv
      obtain ⟨f, hf⟩ : ∃ f, F[i] = f := ⟨_, rfl⟩
      rw [hf] at k0 hva hvb hvc HSF HNX
      have HVA := hidG hva
      have HVB := hidG hvb
      have HVC := hidG hvc
      obtain ⟨pa, ca, rfl, -, -, -, -⟩ := hva
      obtain ⟨pb, cb, rfl, -, -, -, -⟩ := hvb
      obtain ⟨pc, cc, rfl, -, -, -, -⟩ := hvc
      clear hf hlaid hown hB hA
      go_wp2_with (go_at_call 12; refine (toLemma_any f _ _ _ _ HVA.out HVB.out HVC.out HSF.out).mono ?_; rintro e w2 ⟨v1, v2, v3, rfl, ⟨⟨p1, c1, rfl⟩, ⟨p2, c2, rfl⟩, ⟨p3, c3, rfl⟩⟩, hr2, hb2⟩; have hown2 := row_below HO.out hb2; have HB2 : Hid (Below w.heap.size w w2) := HB.out.trans (hb2.mono HB.out.size); obtain ⟨x0, e0⟩ := row_at hown2 (i * 4) (by omega); obtain ⟨x1, e1⟩ := row_at hown2 (i * 4 + 1) (by omega); obtain ⟨x2, e2⟩ := row_at hown2 (i * 4 + 2) (by omega); obtain ⟨x3, e3⟩ := row_at hown2 (i * 4 + 3) (by omega); have g0 := hown2.frozenAt (i * 4); have g1 := hown2.frozenAt (i * 4 + 1); have g2' := hown2.frozenAt (i * 4 + 2); have g3' := hown2.frozenAt (i * 4 + 3); have HO2 := hidG hown2; have HR2 := hidG hr2; have HBB := hidG hb2; clear hb2 hown2 hr2)
      have hw4 := ((((HO2.out.stored (i * 4) (.int .i64 f.kind)).1.stored (i * 4 + 1) (.slice p1 f.lits.length c1)).1.stored (i * 4 + 2) (.slice p2 f.chain.length c2)).1.stored (i * 4 + 3) (.slice p3 f.tree.length c3)).1
      have HW4 := hidG hw4
      obtain ⟨WE, hWE⟩ : ∃ WE, ((((w2.setCell ⟨w.heap.size, i * 4, none⟩ (.int .i64 f.kind)).setCell ⟨w.heap.size, i * 4 + 1, none⟩ (.slice p1 f.lits.length c1)).setCell ⟨w.heap.size, i * 4 + 2, none⟩ (.slice p2 f.chain.length c2)).setCell ⟨w.heap.size, i * 4 + 3, none⟩ (.slice p3 f.tree.length c3)) = WE := ⟨_, rfl⟩
      have hh : (∀ k, k ≠ w.heap.size → WE.heap[k]? = w2.heap[k]?) ∧ WE.heap.size = w2.heap.size ∧ Below w.heap.size w WE := by
        rw [← hWE]
        exact ⟨fun k hk => by rw [Below.heap_setCell _ ⟨w.heap.size, i * 4 + 3, none⟩ _ _ hk, Below.heap_setCell _ ⟨w.heap.size, i * 4 + 2, none⟩ _ _ hk, Below.heap_setCell _ ⟨w.heap.size, i * 4 + 1, none⟩ _ _ hk, Below.heap_setCell _ ⟨w.heap.size, i * 4, none⟩ _ _ hk], by simp, (((HB2.out.setCell (p := ⟨w.heap.size, i * 4, none⟩) (Nat.le_refl _) _).setCell (p := ⟨w.heap.size, i * 4 + 1, none⟩) (Nat.le_refl _) _).setCell (p := ⟨w.heap.size, i * 4 + 2, none⟩) (Nat.le_refl _) _).setCell (p := ⟨w.heap.size, i * 4 + 3, none⟩) (Nat.le_refl _) _⟩
      have HHH := hidG hh
      rw [hWE] at HW4 ⊢
      clear hw4 hh hWE
      go_roundw
      case rel =>
        obtain ⟨k1, k2, k3⟩ := HHH.out
        have hsz := HBB.out.size
        refine ⟨i + 1, _, by omega, by go_num, HNX.out WE (.slice p1 f.lits.length c1) (.slice p2 f.chain.length c2) (.slice p3 f.tree.length c3) (by omega) (fun k hk hk2 => (k1 k (by omega)).trans (HBB.out.block k hk2)) ?_, HW4.out, k3⟩
        have := HLT.out
        exact HR2.out.keep (by omega) (by omega) (fun k hk hk2 => k1 k (by omega))
      case measure => simp [intOf]; omega
    · have hie : i = F.length := by omega
      subst hie
      clear hown hB hlaid
      go_wp2_with fail
      go_ret
      refine ⟨_, rfl, ⟨_, _, rfl⟩, ⟨_, _, rfl, Nat.le_refl _, by unfold maxLen; omega, .inr ⟨w.heap.size, rfl, HLT.out, fun j hj => ?_⟩⟩, HB.out⟩
      obtain ⟨h0, va, vb, vc, h1, h2, h3, hL⟩ := HLD.out j hj hj
      have hx := HXL.out
      refine ⟨?_, va, vb, vc, ?_, ?_, ?_, ints_at hL.a, ints_at hL.b, hL.c _ (Nat.le_refl _) (fun _ _ _ => rfl)⟩
      · rw [HO.out.cellAt (j * 4) (by omega)]; exact h0
      · rw [HO.out.cellAt (j * 4 + 1) (by omega)]; exact h1
      · rw [HO.out.cellAt (j * 4 + 2) (by omega)]; exact h2
      · rw [HO.out.cellAt (j * 4 + 3) (by omega)]; exact h3
set_option maxRecDepth 100000 in
set_option maxHeartbeats 8000000 in
theorem eqLemma_same (f : Lm) (va vb vc ua ub uc : Value) (w : World) (h1 : IntsAt w va f.lits) (h2 : IntsAt w vb f.chain) (h3 : TreeAt w vc f.tree) (k1 : IntsAt w ua f.lits) (k2 : IntsAt w ub f.chain) (k3 : TreeAt w uc f.tree) :
    Calls Tryd.prog 17 #[.agg #[.int .i64 f.kind, va, vb, vc], .agg #[.int .i64 f.kind, ua, ub, uc]] w fun e w' => e = .returned (.bool true) ∧ Below w.heap.size w w' := by
  have H1 := hidG h1
  have H2 := hidG h2
  have H3 := hidG h3
  have K1 := hidG k1
  have K2 := hidG k2
  have K3 := hidG k3
  obtain ⟨p1, c1, rfl, -, -, -⟩ := h1
  obtain ⟨p2, c2, rfl, -, -, -⟩ := h2
  obtain ⟨p3, c3, rfl, -, -, -⟩ := h3
  obtain ⟨q1, d1, rfl, -, -, -⟩ := k1
  obtain ⟨q2, d2, rfl, -, -, -⟩ := k2
  obtain ⟨q3, d3, rfl, -, -, -⟩ := k3
  generalize f.kind = k
  obtain ⟨W2, hW2, hb2, x1, x2, -⟩ := box2 w [.int .i64 k, .slice p1 f.lits.length c1, .slice p2 f.chain.length c2, .slice p3 f.tree.length c3] [.int .i64 k, .slice q1 f.lits.length d1, .slice q2 f.chain.length d2, .slice q3 f.tree.length d3] 40 40
  have HW2 := hidG hW2
  have HB2 := hidG hb2
  have HX1 := hidG x1
  have HX2 := hidG x2
  obtain ⟨b0, b1, -, -⟩ := c4 x1
  obtain ⟨e0, e1, -, -⟩ := c4 x2
  clear hW2 hb2 x1 x2
  go_enter Tryd.func17, Tryd.ntmps17
  go_wp2_with (rw [HW2.out])
  refine (eqIntS_same _ _ f.lits W2 (H1.out.below HB2.out) (K1.out.below HB2.out)).mono ?_
  rintro e w3 ⟨rfl, hb3⟩
  have HB3 : Hid (Below w.heap.size w w3) := HB2.out.trans (hb3.mono HB2.out.size)
  have HX13 := hidG (HX1.out.below HX1.out.lt hb3)
  have HX23 := hidG (HX2.out.below HX2.out.lt hb3)
  clear hb3 b0 b1 e0 e1
  obtain ⟨-, -, b2, -⟩ := c4 HX13.out
  obtain ⟨-, -, e2, -⟩ := c4 HX23.out
  go_wp2_with fail
  refine (eqIntS_same _ _ f.chain w3 (H2.out.below HB3.out) (K2.out.below HB3.out)).mono ?_
  rintro e w4 ⟨rfl, hb4⟩
  have HB4 : Hid (Below w.heap.size w w4) := HB3.out.trans (hb4.mono HB3.out.size)
  obtain ⟨-, -, -, b3⟩ := c4 (HX13.out.below HX13.out.lt hb4)
  obtain ⟨-, -, -, e3⟩ := c4 (HX23.out.below HX23.out.lt hb4)
  clear hb4 b2 e2
  go_wp2_with fail
  refine (eqTreeNodeS_same _ _ f.tree w4 (H3.out.below HB4.out) (K3.out.below HB4.out)).mono ?_
  rintro e w5 ⟨rfl, hb5⟩
  have HB5 : Hid (Below w.heap.size w w5) := HB4.out.trans (hb5.mono HB4.out.size)
  clear hb5
  go_wp2_with fail
  go_ret
  exact ⟨rfl, HB5.out⟩
set_option maxRecDepth 100000 in
set_option maxHeartbeats 8000000 in
theorem eqLemmaS_same (v1 v2 : Value) (L : List Lm) (w : World) (h1 : LemsAt w v1 L) (h2 : LemsAt w v2 L) :
    Calls Tryd.prog 8 #[v1, v2] w fun e w' => e = .returned (.bool true) ∧ Below w.heap.size w w' := by
  obtain ⟨p1, c1, rfl, l1, m1, r1⟩ := h1
  obtain ⟨p2, c2, rfl, l2, m2, r2⟩ := h2
  unfold maxLen at m1 m2
  have H1 := hidG r1
  have H2 := hidG r2
  clear r1 r2
  go_enter Tryd.func8, Tryd.ntmps8
  go_wp2_with fail
  go_loopw [5] (fun iv wr => ∃ i : Nat, i ≤ L.length ∧ iv = .int .i64 (i : Nat) ∧ Below w.heap.size w wr) (fun iv _ => L.length - (intOf iv).toNat)
  case atStart => exact ⟨0, Nat.zero_le _, rfl, Below.refl _ _⟩
  case round =>
    obtain ⟨i, hi, rfl, hB⟩ := hrel
    have HB := hidG hB
    by_cases hlt : i < L.length
    · obtain ⟨b1, rfl, hb1, hc1⟩ : ∃ b, p1 = some ⟨b, 0, none⟩ ∧ b < w.heap.size ∧ ∀ i (h : i < L.length), LemR w b (i * 4) L[i] := by
        rcases H1.out with h | h
        · rw [h] at hlt; exact absurd hlt (Nat.not_lt_zero _)
        · exact h
      obtain ⟨b2, rfl, hb2, hc2⟩ : ∃ b, p2 = some ⟨b, 0, none⟩ ∧ b < w.heap.size ∧ ∀ i (h : i < L.length), LemR w b (i * 4) L[i] := by
        rcases H2.out with h | h
        · rw [h] at hlt; exact absurd hlt (Nat.not_lt_zero _)
        · exact h
      obtain ⟨k0, va, vb, vc, k1, k2, k3, hva, hvb, hvc⟩ := hc1 i hlt
      obtain ⟨m0, ua, ub, uc, m1, m2, m3, hua, hub, huc⟩ := hc2 i hlt
      obtain ⟨f, hx⟩ : ∃ f, L[i] = f := ⟨_, rfl⟩
      rw [hx] at k0 m0 hva hvb hvc hua hub huc
      have HVA := hidG hva
      have HVB := hidG hvb
      have HVC := hidG hvc
      have HUA := hidG hua
      have HUB := hidG hub
      have HUC := hidG huc
      obtain ⟨pa, ca, rfl, -, -, -⟩ := hva
      obtain ⟨pb, cb, rfl, -, -, -⟩ := hvb
      obtain ⟨pc, cc, rfl, -, -, -⟩ := hvc
      obtain ⟨qa, da, rfl, -, -, -⟩ := hua
      obtain ⟨qb, db, rfl, -, -, -⟩ := hub
      obtain ⟨qc, dc, rfl, -, -, -⟩ := huc
      have HCC : Hid (∀ W, Below w.heap.size w W → W.cell? ⟨b1, i * 4, none⟩ = some (.int .i64 f.kind) ∧ W.cell? ⟨b1, i * 4 + 1, none⟩ = some (.slice pa f.lits.length ca) ∧ W.cell? ⟨b1, i * 4 + 2, none⟩ = some (.slice pb f.chain.length cb) ∧ W.cell? ⟨b1, i * 4 + 3, none⟩ = some (.slice pc f.tree.length cc) ∧ W.cell? ⟨b2, i * 4, none⟩ = some (.int .i64 f.kind) ∧ W.cell? ⟨b2, i * 4 + 1, none⟩ = some (.slice qa f.lits.length da) ∧ W.cell? ⟨b2, i * 4 + 2, none⟩ = some (.slice qb f.chain.length db) ∧ W.cell? ⟨b2, i * 4 + 3, none⟩ = some (.slice qc f.tree.length dc)) := fun W h => ⟨(h.cell (p := ⟨b1, i * 4, none⟩) hb1).trans k0, (h.cell (p := ⟨b1, i * 4 + 1, none⟩) hb1).trans k1, (h.cell (p := ⟨b1, i * 4 + 2, none⟩) hb1).trans k2, (h.cell (p := ⟨b1, i * 4 + 3, none⟩) hb1).trans k3, (h.cell (p := ⟨b2, i * 4, none⟩) hb2).trans m0, (h.cell (p := ⟨b2, i * 4 + 1, none⟩) hb2).trans m1, (h.cell (p := ⟨b2, i * 4 + 2, none⟩) hb2).trans m2, (h.cell (p := ⟨b2, i * 4 + 3, none⟩) hb2).trans m3⟩
      clear hB hc1 hc2 hx k0 k1 k2 k3 m0 m1 m2 m3
      have i1 : (i : Int) < (L.length : Int) := by omega
      go_wp2_with fail
      go_region_held3 (fun W => W.cell? ⟨b1, i * 4, none⟩ = some (.int .i64 f.kind) ∧ W.cell? ⟨b1, i * 4 + 1, none⟩ = some (.slice pa f.lits.length ca) ∧ W.cell? ⟨b1, i * 4 + 2, none⟩ = some (.slice pb f.chain.length cb) ∧ W.cell? ⟨b1, i * 4 + 3, none⟩ = some (.slice pc f.tree.length cc) ∧ W.cell? ⟨b2, i * 4, none⟩ = some (.int .i64 f.kind) ∧ W.cell? ⟨b2, i * 4 + 1, none⟩ = some (.slice qa f.lits.length da) ∧ W.cell? ⟨b2, i * 4 + 2, none⟩ = some (.slice qb f.chain.length db) ∧ W.cell? ⟨b2, i * 4 + 3, none⟩ = some (.slice qc f.tree.length dc))
        (first
          | exact HCC.out _ HB.out.drew
          | exact HCC.out _ (HB.out.drew.trans (hbe.mono HB.out.size)))
        ((go_at_call 17; refine (eqLemma_same f _ _ _ _ _ _ _ (HVA.out.below HB.out.drew) (HVB.out.below HB.out.drew) (HVC.out.below HB.out.drew) (HUA.out.below HB.out.drew) (HUB.out.below HB.out.drew) (HUC.out.below HB.out.drew)).mono ?_; rintro e w2 ⟨rfl, hbe⟩))
      all_goals
        have HB2 : Hid (Below w.heap.size w w2) := HB.out.drew.trans (hbe.mono HB.out.size)
        clear hbe
        go_wp2_with fail
        go_roundw
        case rel => exact ⟨i + 1, by omega, by go_num, HB2.out⟩
        case measure => simp [intOf]; omega
    · clear hB
      go_wp2_with fail
      go_ret
      exact ⟨rfl, HB.out⟩
end Go.Proofs.YtdphpfffofeklaaDoor.P
