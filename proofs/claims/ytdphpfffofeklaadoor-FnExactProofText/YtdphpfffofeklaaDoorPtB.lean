import Derived.Test.YtdphpfffofeklaaDoorPtA
import Derived.Test.YtdphpfffofeklaaDoorTcC
namespace Go.Proofs.YtdphpfffofeklaaDoor.P
open Go.ChangeShapes Go.WideShapes Go.ChangeAt Go.RowKit
open L (strOf strOf_toList strOf_size Tn ArgStrs ArgTree hidG below_alloc Bx bx_new SmallS SmallT strsC laid1_next laid1_all row_at row_below own_lower own_base own_other' Stays StrsAt TreeAt strs_at info_tn LaidT toTreeNode_any box2 box3 eqTreeNodeS_same own_row up_alloc)
def intsC (L : List Int) : List Value := L.map (fun x => .int .i64 x)
def IntsAt (w : World) (v : Value) (L : List Int) : Prop :=
  ∃ p c, v = .slice p L.length c ∧ L.length ≤ c ∧ c ≤ maxLen ∧ (L = [] ∨ ∃ b, p = some ⟨b, 0, none⟩ ∧ b < w.heap.size ∧ ∀ i (h : i < L.length), w.cell? ⟨b, i, none⟩ = some (.int .i64 L[i]))
theorem IntsAt.below {w w' : World} {v : Value} {L : List Int} (h : IntsAt w v L) (hb : Below w.heap.size w w') : IntsAt w' v L := by
  obtain ⟨p, c, rfl, h1, h2, h3⟩ := h
  refine ⟨p, c, rfl, h1, h2, ?_⟩
  rcases h3 with h | ⟨b, rfl, hb1, hc⟩
  · exact .inl h
  · exact .inr ⟨b, rfl, Nat.lt_of_lt_of_le hb1 hb.size, fun i hi => (hb.cell (p := ⟨b, i, none⟩) hb1).trans (hc i hi)⟩
theorem info_int0 : (Tryd.prog.info? 3).map (fun i => (i.zero, i.size, i.bytes)) = some (some (.int .i64 0), 1, 8) := by kernel_rfl
theorem info_int : ∃ i : TypeInfo, Tryd.prog.info? 3 = some i ∧ i.zero = some (.int .i64 0) ∧ i.size = 1 ∧ i.bytes = 8 := info_parts info_int0
theorem ints_at {w : World} {base : Nat} {v : Value} {L : List Int} (h : w.ownsRow base 3 1 v L.length (intsC L)) : IntsAt w v L := by
  have h0 := h
  rcases h.2 with ⟨rfl, h2⟩ | ⟨g, cap, cur, rfl, h2, h3, h4, h5, _⟩
  · exact ⟨none, 0, by rw [h2], by omega, by unfold maxLen; omega, .inl (List.length_eq_zero_iff.1 h2)⟩
  · refine ⟨_, cap, rfl, h4, h5, .inr ⟨g, rfl, (h0.lt g rfl).2, fun i hi => ?_⟩⟩
    rw [h0.cellAt i (by simpa using hi)]
    unfold intsC
    rw [List.getElem?_map, List.getElem?_eq_getElem hi]
    rfl
set_option maxRecDepth 100000 in
set_option maxHeartbeats 4000000 in
theorem toIntS_any (v : Value) (L : List Int) (w : World) (h : ArgInts w v L) (hs : L.length ≤ 1048576) :
    Calls Tryd.prog 25 #[v] w fun e w' => ∃ g c, e = .returned (.slice (some ⟨g, 0, none⟩) L.length c) ∧ w'.ownsRow w.heap.size 3 1 (.slice (some ⟨g, 0, none⟩) L.length c) L.length (intsC L) ∧ Below w.heap.size w w' := by
  obtain ⟨a, c, rfl, hc, hc2, -, hA⟩ := h
  unfold maxLen at hc2
  obtain ⟨i0, hinf, hz0, hz1, hz2⟩ := info_int
  have hnl := hs
  have HA := hidG hA
  clear hA hs
  go_enter Tryd.func25, Tryd.ntmps25
  go_wp2_with (at_make; refine wpList_make_full _ rfl _ _ 30 rfl w.heap.size 3 i0 (.int .i64 0) 1 Tryd.underlying30 hinf hz0 hz1 .i64 .i64 _ _ L.length rfl rfl (by simp) (by simp) (by rw [hz2]; omega) (by unfold maxLen; omega) (Nat.le_refl _) ?_)
  intro w1 hown1 hgr
  have HB1 : Hid (Below w.heap.size w w1) := (Below.refl _ _).grown hgr (Nat.le_refl _) (fun k e => by cases e)
  have HO1 := hidG hown1
  clear hown1 hgr
  go_wp2_with fail
  go_loopw [4] (fun iv wr => ∃ (i : Nat) (xs : List Value), i ≤ L.length ∧ iv = .int .i64 i ∧ (∀ j (hj : j < L.length), j < i → xs[j]? = some (.int .i64 L[j])) ∧ wr.ownsRow w.heap.size 3 1 (.slice (some ⟨w.heap.size, 0, none⟩) L.length L.length) L.length xs ∧ Below w.heap.size w wr) (fun iv _ => L.length - (intOf iv).toNat)
  case atStart => exact ⟨0, _, Nat.zero_le _, rfl, fun j _ h => absurd h (Nat.not_lt_zero _), HO1.out, HB1.out⟩
  case round =>
    obtain ⟨i, xs, hi, rfl, hlaid, hown, hB⟩ := hrel
    have HB := hidG hB
    have HLD := hidG hlaid
    have HXL : Hid (xs.length = L.length) := by have := hown.1; unfold Hid; omega
    by_cases hlt : i < L.length
    · obtain ⟨b, off, rfl, hb, hA⟩ : ∃ b off, a = some ⟨b, off, none⟩ ∧ b < w.heap.size ∧ ∀ i (h : i < L.length), w.cell? ⟨b, off + i, none⟩ = some (.int .i64 L[i]) := by
        rcases HA.out with h | h
        · rw [h] at hlt; exact absurd hlt (Nat.not_lt_zero _)
        · exact h
      have k0 := hA i hlt
      rw [← hB.cell (p := ⟨b, off + i, none⟩) hb] at k0
      have HNX := hidG (laid1_next (f := fun x => .int .i64 x) HXL.out hlaid hlt)
      obtain ⟨x0, e0⟩ := row_at hown i (by omega)
      have g0 := hown.frozenAt i
      have hw4 := (hown.stored i (.int .i64 L[i])).1
      have HW4 := hidG hw4
      clear hlaid hown hB hA hw4
      go_wp2_with fail
      go_roundw
      case rel => exact ⟨i + 1, _, by omega, by go_num, HNX.out, HW4.out, HB.out.setCell (p := ⟨w.heap.size, i, none⟩) (Nat.le_refl _) _⟩
      case measure => simp [intOf]; omega
    · have hie : i = L.length := by omega
      subst hie
      have HO := hidG hown
      clear hown hB hlaid
      go_wp2_with fail
      go_ret
      have e := laid1_all (f := fun x => .int .i64 x) HXL.out HLD.out
      have ho := HO.out
      rw [e] at ho
      exact ⟨_, _, rfl, ho, HB.out⟩
set_option maxRecDepth 100000 in
set_option maxHeartbeats 4000000 in
theorem eqIntS_same (v1 v2 : Value) (L : List Int) (w : World) (h1 : IntsAt w v1 L) (h2 : IntsAt w v2 L) :
    Calls Tryd.prog 33 #[v1, v2] w fun e w' => e = .returned (.bool true) ∧ Below w.heap.size w w' := by
  obtain ⟨p1, c1, rfl, l1, m1, r1⟩ := h1
  obtain ⟨p2, c2, rfl, l2, m2, r2⟩ := h2
  unfold maxLen at m1 m2
  have H1 := hidG r1
  have H2 := hidG r2
  clear r1 r2
  go_enter Tryd.func33, Tryd.ntmps33
  go_wp2_with fail
  go_loopw [5] (fun iv wr => ∃ i : Nat, i ≤ L.length ∧ iv = .int .i64 (i : Nat) ∧ Below w.heap.size w wr) (fun iv _ => L.length - (intOf iv).toNat)
  case atStart => exact ⟨0, Nat.zero_le _, rfl, Below.refl _ _⟩
  case round =>
    obtain ⟨i, hi, rfl, hB⟩ := hrel
    have HB := hidG hB
    by_cases hlt : i < L.length
    · obtain ⟨b1, rfl, hb1, hc1⟩ : ∃ b, p1 = some ⟨b, 0, none⟩ ∧ b < w.heap.size ∧ ∀ i (h : i < L.length), w.cell? ⟨b, i, none⟩ = some (.int .i64 L[i]) := by
        rcases H1.out with h | h
        · rw [h] at hlt; exact absurd hlt (Nat.not_lt_zero _)
        · exact h
      obtain ⟨b2, rfl, hb2, hc2⟩ : ∃ b, p2 = some ⟨b, 0, none⟩ ∧ b < w.heap.size ∧ ∀ i (h : i < L.length), w.cell? ⟨b, i, none⟩ = some (.int .i64 L[i]) := by
        rcases H2.out with h | h
        · rw [h] at hlt; exact absurd hlt (Nat.not_lt_zero _)
        · exact h
      have k0 := hc1 i hlt
      have m0 := hc2 i hlt
      rw [← hB.cell (p := ⟨b1, i, none⟩) hb1] at k0
      rw [← hB.cell (p := ⟨b2, i, none⟩) hb2] at m0
      generalize L[i] = s at k0 m0
      clear hB hc1 hc2
      go_wp2_with fail
      go_region
      all_goals
        have HB2 := hidG HB.out.drew
        go_wp2_with fail
        go_roundw
        case rel => exact ⟨i + 1, by omega, by go_num, HB2.out⟩
        case measure => simp [intOf]; omega
    · clear hB
      go_wp2_with fail
      go_ret
      exact ⟨rfl, HB.out⟩
set_option maxRecDepth 100000 in
set_option maxHeartbeats 4000000 in
theorem toTreeNodeS_st (v : Value) (F : List Tn) (w : World) (h : ArgTree w v F) (hs : F.length ≤ 1048576 ∧ ∀ f ∈ F, SmallT f) :
    Calls Tryd.prog 26 #[v] w fun e w' => ∃ v', e = .returned v' ∧ (∃ p c, v' = .slice p F.length c) ∧ Stays w.heap.size w' (fun W => TreeAt W v' F) ∧ Below w.heap.size w w' := by
  obtain ⟨a, c, rfl, hc, hc2, -, hA⟩ := h
  unfold maxLen at hc2
  obtain ⟨i0, hinf, hz0, hz1, hz2⟩ := info_tn
  have hnl := hs.1
  have HA := hidG hA
  have HSM := hidG hs.2
  clear hA hs
  go_enter Tryd.func26, Tryd.ntmps26
  go_wp2_with (at_make; refine wpList_make_full _ rfl _ _ 38 rfl w.heap.size 65 i0 _ 3 Tryd.underlying38 hinf hz0 hz1 .i64 .i64 _ _ F.length rfl rfl (by simp) (by simp) (by rw [hz2]; omega) (by unfold maxLen; omega) (Nat.le_refl _) ?_)
  intro w1 hown1 hgr
  have HB1 : Hid (Below w.heap.size w w1) := (Below.refl _ _).grown hgr (Nat.le_refl _) (fun k e => by cases e)
  have HO1 := hidG hown1
  clear hown1 hgr
  go_wp2_with fail
  go_loopw [4] (fun iv wr => ∃ (i : Nat) (xs : List Value), i ≤ F.length ∧ iv = .int .i64 i ∧ LaidT wr (w.heap.size + 1) xs F i ∧ wr.ownsRow w.heap.size 65 3 (.slice (some ⟨w.heap.size, 0, none⟩) F.length F.length) F.length xs ∧ Below w.heap.size w wr) (fun iv _ => F.length - (intOf iv).toNat)
  case atStart => exact ⟨0, _, Nat.zero_le _, rfl, fun j _ h => absurd h (Nat.not_lt_zero _), HO1.out, HB1.out⟩
  case round =>
    obtain ⟨i, xs, hi, rfl, hlaid, hown, hB⟩ := hrel
    have HB := hidG hB
    have HLD := hidG hlaid
    have HXL : Hid (xs.length = F.length * 3) := hown.1
    have HO := hidG hown
    have HLT : Hid (w.heap.size < wr.heap.size) := (hown.lt _ rfl).2
    by_cases hlt : i < F.length
    · obtain ⟨b, off, rfl, hb, hA⟩ : ∃ b off, a = some ⟨b, off, none⟩ ∧ b < w.heap.size ∧ ∀ i (h : i < F.length), w.cell? ⟨b, off + i * 3, none⟩ = some (.int .i64 F[i].col) ∧ w.cell? ⟨b, off + i * 3 + 1, none⟩ = some (.string (strOf F[i].pl)) ∧ (∃ va, w.cell? ⟨b, off + i * 3 + 2, none⟩ = some va ∧ ArgStrs w va F[i].mu) := by
        rcases HA.out with h | h
        · rw [h] at hlt; exact absurd hlt (Nat.not_lt_zero _)
        · exact h
      obtain ⟨k0, k1, va, k2, hva⟩ := hA i hlt
      rw [← hB.cell (p := ⟨b, off + i * 3, none⟩) hb] at k0
      rw [← hB.cell (p := ⟨b, off + i * 3 + 1, none⟩) hb] at k1
      rw [← hB.cell (p := ⟨b, off + i * 3 + 2, none⟩) hb] at k2
      have HVA := hidG (hva.below hB)
      have HSF := hidG (HSM.out _ (List.getElem_mem hlt)).1
      have HNX : Hid (∀ wr' va, (∀ k, w.heap.size + 1 ≤ k → k < wr.heap.size → wr'.heap[k]? = wr.heap[k]?) → wr'.ownsRow (w.heap.size + 1) 9 1 va F[i].mu.length (strsC F[i].mu) → LaidT wr' (w.heap.size + 1) (((xs.set (i * 3) (.int .i64 F[i].col)).set (i * 3 + 1) (.string (strOf F[i].pl))).set (i * 3 + 2) va) F (i + 1)) := fun wr' va hk hv => LaidT.next HXL.out HLD.out hlt hk hv
      obtain ⟨f, hf⟩ : ∃ f, F[i] = f := ⟨_, rfl⟩
      rw [hf] at k0 k1 HVA HSF HNX
      obtain ⟨pa, ca, rfl, -, -, -, -⟩ := hva
      rw [hf] at k2
      rw [hf] at HVA
      clear hf hlaid hown hB hA
      go_wp2_with (go_at_call 40; refine (toTreeNode_any f _ _ HVA.out HSF.out).mono ?_; rintro e w2 ⟨g2, c2, rfl, hr2, hb2⟩; have hown2 := row_below HO.out hb2; have HB2 : Hid (Below w.heap.size w w2) := HB.out.trans (hb2.mono HB.out.size); obtain ⟨x0, e0⟩ := row_at hown2 (i * 3) (by omega); obtain ⟨x1, e1⟩ := row_at hown2 (i * 3 + 1) (by omega); obtain ⟨x2, e2⟩ := row_at hown2 (i * 3 + 2) (by omega); have g0 := hown2.frozenAt (i * 3); have g1 := hown2.frozenAt (i * 3 + 1); have g2' := hown2.frozenAt (i * 3 + 2); have HO2 := hidG hown2; have HR2 := hidG hr2; have HBB := hidG hb2; clear hb2 hown2 hr2)
      have hw4 := (((HO2.out.stored (i * 3) (.int .i64 f.col)).1.stored (i * 3 + 1) (.string (strOf f.pl))).1.stored (i * 3 + 2) (.slice (some ⟨g2, 0, none⟩) f.mu.length c2)).1
      have HW4 := hidG hw4
      have hh : ∀ k, k ≠ w.heap.size → (((w2.setCell ⟨w.heap.size, i * 3, none⟩ (.int .i64 f.col)).setCell ⟨w.heap.size, i * 3 + 1, none⟩ (.string (strOf f.pl))).setCell ⟨w.heap.size, i * 3 + 2, none⟩ (.slice (some ⟨g2, 0, none⟩) f.mu.length c2)).heap[k]? = w2.heap[k]? := fun k hk => by rw [Below.heap_setCell _ ⟨w.heap.size, i * 3 + 2, none⟩ _ _ hk, Below.heap_setCell _ ⟨w.heap.size, i * 3 + 1, none⟩ _ _ hk, Below.heap_setCell _ ⟨w.heap.size, i * 3, none⟩ _ _ hk]
      have HHH := hidG hh
      clear hw4 hh
      go_roundw
      case rel =>
        refine ⟨i + 1, _, by omega, by go_num, HNX.out _ (.slice (some ⟨g2, 0, none⟩) f.mu.length c2) (fun k hk hk2 => (HHH.out k (by omega)).trans (HBB.out.block k hk2)) ?_, HW4.out, ((HB2.out.setCell (p := ⟨w.heap.size, i * 3, none⟩) (Nat.le_refl _) _).setCell (p := ⟨w.heap.size, i * 3 + 1, none⟩) (Nat.le_refl _) _).setCell (p := ⟨w.heap.size, i * 3 + 2, none⟩) (Nat.le_refl _) _⟩
        exact own_lower (own_other' HR2.out (fun g hg => HHH.out g (fun e => by have := own_base HR2.out g hg; have := HLT.out; omega))) HLT.out
      case measure => simp [intOf]; omega
    · have hie : i = F.length := by omega
      subst hie
      clear hown hB hlaid
      go_wp2_with fail
      go_ret
      refine ⟨_, rfl, ⟨_, _, rfl⟩, fun W hsz hk => ?_, HB.out⟩
      have hO := own_other' (W' := W) HO.out (fun g hg => hk g (own_base HO.out g hg) (HO.out.lt g hg).2)
      refine ⟨_, _, rfl, Nat.le_refl _, by unfold maxLen; omega, .inr ⟨w.heap.size, 0, rfl, Nat.lt_of_lt_of_le HLT.out hsz, fun j hj => ?_⟩⟩
      obtain ⟨h0, h1, va, h2, hva⟩ := HLD.out j hj hj
      have hva' := own_other' (W' := W) hva (fun g hg => hk g (by have := own_base hva g hg; omega) (hva.lt g hg).2)
      simp only [Nat.zero_add]
      refine ⟨?_, ?_, va, ?_, strs_at hva'⟩
      · rw [hO.cellAt (j * 3) (by have := HXL.out; omega)]; exact h0
      · rw [hO.cellAt (j * 3 + 1) (by have := HXL.out; omega)]; exact h1
      · rw [hO.cellAt (j * 3 + 2) (by have := HXL.out; omega)]; exact h2
end Go.Proofs.YtdphpfffofeklaaDoor.P
