import Derived.Test.YtdphpfffofeklaaDoorTcA
namespace Go.Proofs.YtdphpfffofeklaaDoor.L
open Go.ChangeShapes Go.WideShapes Go.ChangeAt Go.RowKit
set_option maxRecDepth 100000 in
set_option maxHeartbeats 4000000 in
theorem toTreeNode_any (f : Tn) (va : Value) (w : World) (h : ArgStrs w va f.mu) (hs : SmallS f.mu) :
    Calls Tryd.prog 40 #[.agg #[.int .i64 f.col, .string (strOf f.pl), va]] w fun e w' => ∃ g c, e = .returned (.agg #[.int .i64 f.col, .string (strOf f.pl), .slice (some ⟨g, 0, none⟩) f.mu.length c]) ∧ w'.ownsRow w.heap.size 9 1 (.slice (some ⟨g, 0, none⟩) f.mu.length c) f.mu.length (strsC f.mu) ∧ Below w.heap.size w w' := by
  have H := hidG h
  obtain ⟨a, c, rfl, -, -, -, -⟩ := h
  obtain ⟨W3, hW3, hb3, x1, x2, x3, hs3⟩ := box3 w [.int .i64 f.col, .string (strOf f.pl), .slice a f.mu.length c] [.int .i64 0, .string ⟨#[]⟩, .slice none 0 0] [.int .i64 0, .string ⟨#[]⟩, .slice none 0 0] 79 65 65
  have HW3 := hidG hW3
  have HB3 := hidG hb3
  have HX1 := hidG x1
  have HX2 := hidG x2
  have HX3 := hidG x3
  have HS3 := hidG hs3
  obtain ⟨b0, b1, b2⟩ := x1.c3
  obtain ⟨q0, q1, q2⟩ := x3.c3
  have r0 := x3.frozen 0
  have r1 := x3.frozen 1
  clear hW3 hb3 x1 x2 x3 hs3
  go_enter Tryd.func40, Tryd.ntmps40
  go_wp2_with (rw [HW3.out])
  obtain ⟨W4, hW4⟩ : ∃ W4, (W3.setCell ⟨w.heap.size + 1 + 1, 0, none⟩ (.int .i64 f.col)).setCell ⟨w.heap.size + 1 + 1, 1, none⟩ (.string (strOf f.pl)) = W4 := ⟨_, rfl⟩
  rw [hW4]
  have HB4 : Hid (Below w.heap.size w W4) := by unfold Hid; rw [← hW4]; exact (HB3.out.setCell (p := ⟨w.heap.size + 1 + 1, 0, none⟩) (by show _ ≤ w.heap.size + 1 + 1; omega) _).setCell (p := ⟨w.heap.size + 1 + 1, 1, none⟩) (by show _ ≤ w.heap.size + 1 + 1; omega) _
  have HX34 : Hid (Bx W4 (w.heap.size + 1 + 1) [.int .i64 f.col, .string (strOf f.pl), .slice none 0 0]) := by unfold Hid; rw [← hW4]; exact (HX3.out.set 0 _).set 1 _
  have HX24 : Hid (Bx W4 (w.heap.size + 1) [.int .i64 0, .string ⟨#[]⟩, .slice none 0 0]) := by unfold Hid; rw [← hW4]; exact bx_far HX2.out (by omega) _ _ _ _
  have HS4 : Hid (w.heap.size + 1 + 1 + 1 = W4.heap.size) := by unfold Hid; rw [← hW4]; simp [HS3.out]
  clear hW4 b0 b1 b2 q0 q1 q2 r0 r1
  refine (toStringS_any _ f.mu W4 (H.out.below HB4.out) hs).mono ?_
  rintro e w5 ⟨g5, c5, rfl, hown5, hb5⟩
  have HO5 := hidG hown5
  have HB5 : Hid (Below w.heap.size w w5) := HB4.out.trans (hb5.mono HB4.out.size)
  have hY3 := HX34.out.below HX34.out.lt hb5
  have hY2 := HX24.out.below HX24.out.lt hb5
  obtain ⟨W6, hW6⟩ : ∃ W6, w5.setCell ⟨w.heap.size + 1 + 1, 2, none⟩ (.slice (some ⟨g5, 0, none⟩) f.mu.length c5) = W6 := ⟨_, rfl⟩
  have hZ3 : Bx W6 (w.heap.size + 1 + 1) [.int .i64 f.col, .string (strOf f.pl), .slice (some ⟨g5, 0, none⟩) f.mu.length c5] := by rw [← hW6]; exact hY3.set 2 _
  have hZ2 : Bx W6 (w.heap.size + 1) [.int .i64 0, .string ⟨#[]⟩, .slice none 0 0] := by rw [← hW6]; exact bx_one hY2 (by omega) _ _
  have HB6 : Hid (Below w.heap.size w W6) := by unfold Hid; rw [← hW6]; exact HB5.out.setCell (p := ⟨w.heap.size + 1 + 1, 2, none⟩) (by show _ ≤ w.heap.size + 1 + 1; omega) _
  have HO6 : Hid (W6.ownsRow W4.heap.size 9 1 (.slice (some ⟨g5, 0, none⟩) f.mu.length c5) f.mu.length (strsC f.mu)) := by
    unfold Hid; rw [← hW6]
    exact ownsRow_setCell_below HO5.out (a := ⟨w.heap.size + 1 + 1, 2, none⟩) (by have := HS4.out; show w.heap.size + 1 + 1 < _; omega) _
  have HW6 := hidG hW6
  have HZ2 := hidG hZ2
  obtain ⟨y0, y1, y2⟩ := hY3.c3
  have y3 := hY3.frozen 2
  obtain ⟨z0, z1, z2⟩ := hZ3.c3
  obtain ⟨t0, t1, t2⟩ := hZ2.c3
  have t3 := hZ2.frozen 0
  have t4 := hZ2.frozen 1
  have t5 := hZ2.frozen 2
  clear hY3 hY2 hZ3 hZ2 hW6 hown5 hb5
  go_wp2_with (rw [HW6.out])
  have hE := ((HZ2.out.set 0 (.int .i64 f.col)).set 1 (.string (strOf f.pl))).set 2 (.slice (some ⟨g5, 0, none⟩) f.mu.length c5)
  obtain ⟨e0, e1, e2⟩ := hE.c3
  have hw1 : w.heap.size + 1 < W4.heap.size := by have := HS4.out; omega
  have hO := own_lower (ownsRow_setCell_below (ownsRow_setCell_below (ownsRow_setCell_below HO6.out (a := ⟨w.heap.size + 1, 0, none⟩) hw1 (.int .i64 f.col)) (a := ⟨w.heap.size + 1, 1, none⟩) hw1 (.string (strOf f.pl))) (a := ⟨w.heap.size + 1, 2, none⟩) hw1 (.slice (some ⟨g5, 0, none⟩) f.mu.length c5)) (base' := w.heap.size) (by omega)
  have hBE := ((HB6.out.setCell (p := ⟨w.heap.size + 1, 0, none⟩) (by show _ ≤ w.heap.size + 1; omega) (.int .i64 f.col)).setCell (p := ⟨w.heap.size + 1, 1, none⟩) (by show _ ≤ w.heap.size + 1; omega) (.string (strOf f.pl))).setCell (p := ⟨w.heap.size + 1, 2, none⟩) (by show _ ≤ w.heap.size + 1; omega) (.slice (some ⟨g5, 0, none⟩) f.mu.length c5)
  refine bodyPost_ret (v := .agg #[.int .i64 f.col, .string (strOf f.pl), .slice (some ⟨g5, 0, none⟩) f.mu.length c5]) ?_ rfl ⟨g5, c5, rfl, hO, hBE⟩
  clear hE hO hBE
  simp [results, Tryd.results40, go_sem, e0, e1, e2]
/-- Nodes, as far as they are laid. -/
def LaidT (wr : World) (N : Nat) (xs : List Value) (F : List Tn) (i : Nat) : Prop :=
  ∀ j (h : j < F.length), j < i → xs[j * 3]? = some (.int .i64 F[j].col) ∧ xs[j * 3 + 1]? = some (.string (strOf F[j].pl)) ∧ (∃ va, xs[j * 3 + 2]? = some va ∧ wr.ownsRow N 9 1 va F[j].mu.length (strsC F[j].mu))
theorem LaidT.next {wr wr' : World} {N : Nat} {xs : List Value} {F : List Tn} {i : Nat} (hx : xs.length = F.length * 3) (h : LaidT wr N xs F i) (hi : i < F.length) {va : Value} (hk : ∀ k, N ≤ k → k < wr.heap.size → wr'.heap[k]? = wr.heap[k]?) (hva : wr'.ownsRow N 9 1 va F[i].mu.length (strsC F[i].mu)) :
    LaidT wr' N (((xs.set (i * 3) (.int .i64 F[i].col)).set (i * 3 + 1) (.string (strOf F[i].pl))).set (i * 3 + 2) va) F (i + 1) := by
  intro j hj hji
  by_cases e : j = i
  · subst e
    refine ⟨?_, ?_, va, ?_, hva⟩
    · rw [List.getElem?_set_ne (by omega), List.getElem?_set_ne (by omega), List.getElem?_set_self (by omega)]
    · rw [List.getElem?_set_ne (by omega), List.getElem?_set_self (by simp; omega)]
    · rw [List.getElem?_set_self (by simp; omega)]
  · obtain ⟨h0, h1, vb, h2, hb⟩ := h j hj (by omega)
    refine ⟨?_, ?_, vb, ?_, own_other' hb (fun g hg => hk g (own_base hb g hg) (hb.lt g hg).2)⟩ <;> rw [List.getElem?_set_ne (by omega), List.getElem?_set_ne (by omega), List.getElem?_set_ne (by omega)] <;> assumption
set_option maxRecDepth 100000 in
set_option maxHeartbeats 4000000 in
theorem toTreeNodeS_any (v : Value) (F : List Tn) (w : World) (h : ArgTree w v F) (hs : F.length ≤ 1048576 ∧ ∀ f ∈ F, SmallT f) :
    Calls Tryd.prog 26 #[v] w fun e w' => ∃ v', e = .returned v' ∧ (∃ p c, v' = .slice p F.length c) ∧ TreeAt w' v' F ∧ Below w.heap.size w w' := by
  obtain ⟨a, c, rfl, hc, hc2, -, hA⟩ := h
  unfold maxLen at hc2
  obtain ⟨i0, hinf, hz0, hz1, hz2⟩ := info_tn
  have hnl := hs.1
  have HA := hidG hA
  have HSM := hidG hs.2
  clear hA hs
  go_enter Tryd.func26, Tryd.ntmps26
  go_wp2_with (at_make; refine wpList_make_full _ rfl _ _ 38 rfl w.heap.size 65 i0 _ 3 Tryd.underlying38 hinf hz0 hz1 .i64 .i64 _ _ F.length rfl rfl (by simp) (by simp) (by rw [hz2]; omega) (by unfold maxLen; omega) (Nat.le_refl _) ?_)
  intro w1 hown1 hgr
  have HB1 : Hid (Below w.heap.size w w1) := (Below.refl _ _).grown hgr (Nat.le_refl _) (fun k e => by cases e)
  have HO1 := hidG hown1
  clear hown1 hgr
  go_wp2_with fail
  go_loopw [4] (fun iv wr => ∃ (i : Nat) (xs : List Value), i ≤ F.length ∧ iv = .int .i64 i ∧ LaidT wr (w.heap.size + 1) xs F i ∧ wr.ownsRow w.heap.size 65 3 (.slice (some ⟨w.heap.size, 0, none⟩) F.length F.length) F.length xs ∧ Below w.heap.size w wr) (fun iv _ => F.length - (intOf iv).toNat)
  case atStart => exact ⟨0, _, Nat.zero_le _, rfl, fun j _ h => absurd h (Nat.not_lt_zero _), HO1.out, HB1.out⟩
  case round =>
    obtain ⟨i, xs, hi, rfl, hlaid, hown, hB⟩ := hrel
    have HB := hidG hB
    have HLD := hidG hlaid
    have HXL : Hid (xs.length = F.length * 3) := hown.1
    have HO := hidG hown
    have HLT : Hid (w.heap.size < wr.heap.size) := (hown.lt _ rfl).2
    by_cases hlt : i < F.length
    · obtain ⟨b, off, rfl, hb, hA⟩ : ∃ b off, a = some ⟨b, off, none⟩ ∧ b < w.heap.size ∧ ∀ i (h : i < F.length), w.cell? ⟨b, off + i * 3, none⟩ = some (.int .i64 F[i].col) ∧ w.cell? ⟨b, off + i * 3 + 1, none⟩ = some (.string (strOf F[i].pl)) ∧ (∃ va, w.cell? ⟨b, off + i * 3 + 2, none⟩ = some va ∧ ArgStrs w va F[i].mu) := by
        rcases HA.out with h | h
        · rw [h] at hlt; exact absurd hlt (Nat.not_lt_zero _)
        · exact h
      obtain ⟨k0, k1, va, k2, hva⟩ := hA i hlt
      rw [← hB.cell (p := ⟨b, off + i * 3, none⟩) hb] at k0
      rw [← hB.cell (p := ⟨b, off + i * 3 + 1, none⟩) hb] at k1
      rw [← hB.cell (p := ⟨b, off + i * 3 + 2, none⟩) hb] at k2
      have HVA := hidG (hva.below hB)
      have HSF := hidG (HSM.out _ (List.getElem_mem hlt)).1
      have HNX : Hid (∀ wr' va, (∀ k, w.heap.size + 1 ≤ k → k < wr.heap.size → wr'.heap[k]? = wr.heap[k]?) → wr'.ownsRow (w.heap.size + 1) 9 1 va F[i].mu.length (strsC F[i].mu) → LaidT wr' (w.heap.size + 1) (((xs.set (i * 3) (.int .i64 F[i].col)).set (i * 3 + 1) (.string (strOf F[i].pl))).set (i * 3 + 2) va) F (i + 1)) := fun wr' va hk hv => LaidT.next HXL.out HLD.out hlt hk hv
      obtain ⟨f, hf⟩ : ∃ f, F[i] = f := ⟨_, rfl⟩
      rw [hf] at k0 k1 HVA HSF HNX
      obtain ⟨pa, ca, rfl, -, -, -, -⟩ := hva
      rw [hf] at k2
      rw [hf] at HVA
      clear hf hlaid hown hB hA
      go_wp2_with (go_at_call 40; refine (toTreeNode_any f _ _ HVA.out HSF.out).mono ?_; rintro e w2 ⟨g2, c2, rfl, hr2, hb2⟩; have hown2 := row_below HO.out hb2; have HB2 : Hid (Below w.heap.size w w2) := HB.out.trans (hb2.mono HB.out.size); obtain ⟨x0, e0⟩ := row_at hown2 (i * 3) (by omega); obtain ⟨x1, e1⟩ := row_at hown2 (i * 3 + 1) (by omega); obtain ⟨x2, e2⟩ := row_at hown2 (i * 3 + 2) (by omega); have g0 := hown2.frozenAt (i * 3); have g1 := hown2.frozenAt (i * 3 + 1); have g2' := hown2.frozenAt (i * 3 + 2); have HO2 := hidG hown2; have HR2 := hidG hr2; have HBB := hidG hb2; clear hb2 hown2 hr2)
      have hw4 := (((HO2.out.stored (i * 3) (.int .i64 f.col)).1.stored (i * 3 + 1) (.string (strOf f.pl))).1.stored (i * 3 + 2) (.slice (some ⟨g2, 0, none⟩) f.mu.length c2)).1
      have HW4 := hidG hw4
      have hh : ∀ k, k ≠ w.heap.size → (((w2.setCell ⟨w.heap.size, i * 3, none⟩ (.int .i64 f.col)).setCell ⟨w.heap.size, i * 3 + 1, none⟩ (.string (strOf f.pl))).setCell ⟨w.heap.size, i * 3 + 2, none⟩ (.slice (some ⟨g2, 0, none⟩) f.mu.length c2)).heap[k]? = w2.heap[k]? := fun k hk => by rw [Below.heap_setCell _ ⟨w.heap.size, i * 3 + 2, none⟩ _ _ hk, Below.heap_setCell _ ⟨w.heap.size, i * 3 + 1, none⟩ _ _ hk, Below.heap_setCell _ ⟨w.heap.size, i * 3, none⟩ _ _ hk]
      have HHH := hidG hh
      clear hw4 hh
      go_roundw
      case rel =>
        refine ⟨i + 1, _, by omega, by go_num, HNX.out _ (.slice (some ⟨g2, 0, none⟩) f.mu.length c2) (fun k hk hk2 => (HHH.out k (by omega)).trans (HBB.out.block k hk2)) ?_, HW4.out, ((HB2.out.setCell (p := ⟨w.heap.size, i * 3, none⟩) (Nat.le_refl _) _).setCell (p := ⟨w.heap.size, i * 3 + 1, none⟩) (Nat.le_refl _) _).setCell (p := ⟨w.heap.size, i * 3 + 2, none⟩) (Nat.le_refl _) _⟩
        exact own_lower (own_other' HR2.out (fun g hg => HHH.out g (fun e => by have := own_base HR2.out g hg; have := HLT.out; omega))) HLT.out
      case measure => simp [intOf]; omega
    · have hie : i = F.length := by omega
      subst hie
      clear hown hB hlaid
      go_wp2_with fail
      go_ret
      refine ⟨_, rfl, ⟨_, _, rfl⟩, ⟨_, _, rfl, Nat.le_refl _, by unfold maxLen; omega, .inr ⟨w.heap.size, 0, rfl, HLT.out, fun j hj => ?_⟩⟩, HB.out⟩
      obtain ⟨h0, h1, va, h2, hva⟩ := HLD.out j hj hj
      simp only [Nat.zero_add]
      refine ⟨?_, ?_, va, ?_, strs_at hva⟩
      · rw [HO.out.cellAt (j * 3) (by omega)]; exact h0
      · rw [HO.out.cellAt (j * 3 + 1) (by omega)]; exact h1
      · rw [HO.out.cellAt (j * 3 + 2) (by omega)]; exact h2
end Go.Proofs.YtdphpfffofeklaaDoor.L
