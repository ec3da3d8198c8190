import Derived.Test.YtpimiboiogfhbaaLrA
namespace Go.Proofs.Ytpimiboiogfhbaa.L
open Go.ChangeShapes Go.WideShapes Go.ChangeAt Go.RowKit
theorem info_row0 : (Try.prog.info? 33).map (fun i => (i.zero, i.size, i.bytes)) = some (some (.agg #[.slice none 0 0, .bool false, .string ⟨#[]⟩]), 3, 48) := by kernel_rfl
theorem info_row : ∃ i : TypeInfo, Try.prog.info? 33 = some i ∧ i.zero = some (.agg #[.slice none 0 0, .bool false, .string ⟨#[]⟩]) ∧ i.size = 3 ∧ i.bytes = 48 := info_parts info_row0
set_option maxRecDepth 100000 in
set_option maxHeartbeats 4000000 in
theorem toLinRow_any (f : Lr) (va : Value) (w : World) (h : ArgStrs w va f.cs) (hs : SmallS f.cs) :
    Calls Try.prog 11 #[.agg #[va, .bool f.st, .string (strOf f.bd)]] w fun e w' => ∃ g c, e = .returned (.agg #[.slice (some ⟨g, 0, none⟩) f.cs.length c, .bool f.st, .string (strOf f.bd)]) ∧ w'.ownsRow w.heap.size 9 1 (.slice (some ⟨g, 0, none⟩) f.cs.length c) f.cs.length (strsC f.cs) ∧ Below w.heap.size w w' := by
  have H := hidG h
  obtain ⟨a, c, rfl, -, -, -, -⟩ := h
  go_enter Try.func11, Try.ntmps11
  go_wp2_with fail
  obtain ⟨W3, hW3, hb3, x1, x2, x3, hs3⟩ := box3 w [.slice a f.cs.length c, .bool f.st, .string (strOf f.bd)] [.slice none 0 0, .bool false, .string ⟨#[]⟩] [.slice none 0 0, .bool false, .string ⟨#[]⟩] 32 33 33
  rw [hW3]
  clear hW3
  have HB3 := hidG hb3
  have HX1 := hidG x1
  have HX2 := hidG x2
  have HX3 := hidG x3
  have HS3 := hidG hs3
  clear hb3 x1 x2 x3 hs3
  refine (toStringS_any _ f.cs W3 (H.out.below HB3.out) hs).mono ?_
  rintro e w4 ⟨g4, c4, rfl, hown4, hb4⟩
  have HB4 : Hid (Below w.heap.size w w4) := HB3.out.trans (hb4.mono HB3.out.size)
  have HO4 := hidG hown4
  have HY1 := hidG (HX1.out.below HX1.out.lt hb4)
  have HY2 := hidG (HX2.out.below HX2.out.lt hb4)
  have HY3 := hidG (HX3.out.below HX3.out.lt hb4)
  clear hown4 hb4
  obtain ⟨b0, b1, b2⟩ := HY1.out.c3
  obtain ⟨d0, d1, d2⟩ := HY2.out.c3
  obtain ⟨q0, q1, q2⟩ := HY3.out.c3
  have f0 := HY2.out.frozen 0
  have f1 := HY2.out.frozen 1
  have f2 := HY2.out.frozen 2
  have r0 := HY3.out.frozen 0
  have r1 := HY3.out.frozen 1
  have r2 := HY3.out.frozen 2
  go_wp2_with fail
  clear b0 b1 b2 d0 d1 d2 q0 q1 q2 f0 f1 f2 r0 r1 r2
  generalize hU : Value.slice (some ⟨g4, 0, none⟩) f.cs.length c4 = U
  have n12 : w.heap.size + 1 ≠ w.heap.size + 1 + 1 := by omega
  have hA : Bx (((w4.setCell ⟨w.heap.size + 1 + 1, 0, none⟩ U).setCell ⟨w.heap.size + 1 + 1, 1, none⟩ (.bool f.st)).setCell ⟨w.heap.size + 1 + 1, 2, none⟩ (.string (strOf f.bd))) (w.heap.size + 1) [.slice none 0 0, .bool false, .string ⟨#[]⟩] := by
    obtain ⟨ty, hh⟩ := HY2.out
    refine ⟨ty, ?_⟩
    rw [Below.heap_setCell _ ⟨w.heap.size + 1 + 1, 2, none⟩ _ _ n12, Below.heap_setCell _ ⟨w.heap.size + 1 + 1, 1, none⟩ _ _ n12, Below.heap_setCell _ ⟨w.heap.size + 1 + 1, 0, none⟩ _ _ n12]
    exact hh
  have hE := ((hA.set 0 U).set 1 (.bool f.st)).set 2 (.string (strOf f.bd))
  have hBE := (((((HB4.out.setCell (p := ⟨w.heap.size + 1 + 1, 0, none⟩) (by show _ ≤ w.heap.size + 1 + 1; omega) U).setCell (p := ⟨w.heap.size + 1 + 1, 1, none⟩) (by show _ ≤ w.heap.size + 1 + 1; omega) (.bool f.st)).setCell (p := ⟨w.heap.size + 1 + 1, 2, none⟩) (by show _ ≤ w.heap.size + 1 + 1; omega) (.string (strOf f.bd))).setCell (p := ⟨w.heap.size + 1, 0, none⟩) (by show _ ≤ w.heap.size + 1; omega) U).setCell (p := ⟨w.heap.size + 1, 1, none⟩) (by show _ ≤ w.heap.size + 1; omega) (.bool f.st)).setCell (p := ⟨w.heap.size + 1, 2, none⟩) (by show _ ≤ w.heap.size + 1; omega) (.string (strOf f.bd))
  have hO : ((((((w4.setCell ⟨w.heap.size + 1 + 1, 0, none⟩ U).setCell ⟨w.heap.size + 1 + 1, 1, none⟩ (.bool f.st)).setCell ⟨w.heap.size + 1 + 1, 2, none⟩ (.string (strOf f.bd))).setCell ⟨w.heap.size + 1, 0, none⟩ U).setCell ⟨w.heap.size + 1, 1, none⟩ (.bool f.st)).setCell ⟨w.heap.size + 1, 2, none⟩ (.string (strOf f.bd))).ownsRow w.heap.size 9 1 (.slice (some ⟨g4, 0, none⟩) f.cs.length c4) f.cs.length (strsC f.cs) := by
    refine own_lower (own_other' HO4.out (fun g hg => ?_)) HB3.out.size
    have hgb := own_base HO4.out g hg
    have hs3 := HS3.out
    have n1 : g ≠ w.heap.size + 1 := by omega
    have n2 : g ≠ w.heap.size + 1 + 1 := by omega
    rw [Below.heap_setCell _ ⟨w.heap.size + 1, 2, none⟩ _ _ n1, Below.heap_setCell _ ⟨w.heap.size + 1, 1, none⟩ _ _ n1, Below.heap_setCell _ ⟨w.heap.size + 1, 0, none⟩ _ _ n1, Below.heap_setCell _ ⟨w.heap.size + 1 + 1, 2, none⟩ _ _ n2, Below.heap_setCell _ ⟨w.heap.size + 1 + 1, 1, none⟩ _ _ n2, Below.heap_setCell _ ⟨w.heap.size + 1 + 1, 0, none⟩ _ _ n2]
  obtain ⟨e0, e1, e2⟩ := hE.c3
  refine bodyPost_ret (v := .agg #[U, .bool f.st, .string (strOf f.bd)]) ?_ rfl ⟨g4, c4, by rw [hU], hO, hBE⟩
  clear hA hE hBE hO
  simp [results, Try.results11, go_sem, e0, e1, e2]
/-- Rows, as far as they are laid. -/
def LaidR (wr : World) (N : Nat) (xs : List Value) (F : List Lr) (i : Nat) : Prop :=
  ∀ j (h : j < F.length), j < i → (∃ va, xs[j * 3]? = some va ∧ wr.ownsRow N 9 1 va F[j].cs.length (strsC F[j].cs)) ∧ xs[j * 3 + 1]? = some (.bool F[j].st) ∧ xs[j * 3 + 2]? = some (.string (strOf F[j].bd))
theorem LaidR.next {wr wr' : World} {N : Nat} {xs : List Value} {F : List Lr} {i : Nat} (hx : xs.length = F.length * 3) (h : LaidR wr N xs F i) (hi : i < F.length) {va : Value} (hk : ∀ k, N ≤ k → k < wr.heap.size → wr'.heap[k]? = wr.heap[k]?) (hva : wr'.ownsRow N 9 1 va F[i].cs.length (strsC F[i].cs)) :
    LaidR wr' N (((xs.set (i * 3) va).set (i * 3 + 1) (.bool F[i].st)).set (i * 3 + 2) (.string (strOf F[i].bd))) F (i + 1) := by
  intro j hj hji
  by_cases e : j = i
  · subst e
    refine ⟨⟨va, ?_, hva⟩, ?_, ?_⟩
    · rw [List.getElem?_set_ne (by omega), List.getElem?_set_ne (by omega), List.getElem?_set_self (by omega)]
    · rw [List.getElem?_set_ne (by omega), List.getElem?_set_self (by simp; omega)]
    · rw [List.getElem?_set_self (by simp; omega)]
  · obtain ⟨⟨vb, h0, hb⟩, h1, h2⟩ := h j hj (by omega)
    refine ⟨⟨vb, ?_, own_other' hb (fun g hg => hk g (own_base hb g hg) (hb.lt g hg).2)⟩, ?_, ?_⟩ <;> rw [List.getElem?_set_ne (by omega), List.getElem?_set_ne (by omega), List.getElem?_set_ne (by omega)] <;> assumption
set_option maxRecDepth 100000 in
set_option maxHeartbeats 4000000 in
theorem toLinRowS_any (v : Value) (F : List Lr) (w : World) (h : ArgRows w v F) (hs : F.length ≤ 1048576 ∧ ∀ f ∈ F, SmallR f) :
    Calls Try.prog 6 #[v] w fun e w' => ∃ v', e = .returned v' ∧ (∃ p c, v' = .slice p F.length c) ∧ Stays w.heap.size w' (fun W => RowsAt W v' F) ∧ Below w.heap.size w w' := by
  obtain ⟨a, c, rfl, hc, hc2, -, hA⟩ := h
  unfold maxLen at hc2
  obtain ⟨i0, hinf, hz0, hz1, hz2⟩ := info_row
  have hnl := hs.1
  have HA := hidG hA
  have HSM := hidG hs.2
  clear hA hs
  go_enter Try.func6, Try.ntmps6
  go_wp2_with (at_make; refine wpList_make_full _ rfl _ _ 25 rfl w.heap.size 33 i0 _ 3 Try.underlying25 hinf hz0 hz1 .i64 .i64 _ _ F.length rfl rfl (by simp) (by simp) (by rw [hz2]; omega) (by unfold maxLen; omega) (Nat.le_refl _) ?_)
  intro w1 hown1 hgr
  have HB1 : Hid (Below w.heap.size w w1) := (Below.refl _ _).grown hgr (Nat.le_refl _) (fun k e => by cases e)
  have HO1 := hidG hown1
  clear hown1 hgr
  go_wp2_with fail
  go_loopw [4] (fun iv wr => ∃ (i : Nat) (xs : List Value), i ≤ F.length ∧ iv = .int .i64 i ∧ LaidR wr (w.heap.size + 1) xs F i ∧ wr.ownsRow w.heap.size 33 3 (.slice (some ⟨w.heap.size, 0, none⟩) F.length F.length) F.length xs ∧ Below w.heap.size w wr) (fun iv _ => F.length - (intOf iv).toNat)
  case atStart => exact ⟨0, _, Nat.zero_le _, rfl, fun j _ h => absurd h (Nat.not_lt_zero _), HO1.out, HB1.out⟩
  case round =>
    obtain ⟨i, xs, hi, rfl, hlaid, hown, hB⟩ := hrel
    have HB := hidG hB
    have HLD := hidG hlaid
    have HXL : Hid (xs.length = F.length * 3) := hown.1
    have HO := hidG hown
    have HLT : Hid (w.heap.size < wr.heap.size) := (hown.lt _ rfl).2
    by_cases hlt : i < F.length
    · obtain ⟨b, off, rfl, hb, hA⟩ : ∃ b off, a = some ⟨b, off, none⟩ ∧ b < w.heap.size ∧ ∀ i (h : i < F.length), (∃ va, w.cell? ⟨b, off + i * 3, none⟩ = some va ∧ ArgStrs w va F[i].cs) ∧ w.cell? ⟨b, off + i * 3 + 1, none⟩ = some (.bool F[i].st) ∧ w.cell? ⟨b, off + i * 3 + 2, none⟩ = some (.string (strOf F[i].bd)) := by
        rcases HA.out with h | h
        · rw [h] at hlt; exact absurd hlt (Nat.not_lt_zero _)
        · exact h
      obtain ⟨⟨va, k0, hva⟩, k1, k2⟩ := hA i hlt
      rw [← hB.cell (p := ⟨b, off + i * 3, none⟩) hb] at k0
      rw [← hB.cell (p := ⟨b, off + i * 3 + 1, none⟩) hb] at k1
      rw [← hB.cell (p := ⟨b, off + i * 3 + 2, none⟩) hb] at k2
      have HVA := hidG (hva.below hB)
      have HSF := hidG (HSM.out _ (List.getElem_mem hlt)).1
      have HNX : Hid (∀ wr' va, (∀ k, w.heap.size + 1 ≤ k → k < wr.heap.size → wr'.heap[k]? = wr.heap[k]?) → wr'.ownsRow (w.heap.size + 1) 9 1 va F[i].cs.length (strsC F[i].cs) → LaidR wr' (w.heap.size + 1) (((xs.set (i * 3) va).set (i * 3 + 1) (.bool F[i].st)).set (i * 3 + 2) (.string (strOf F[i].bd))) F (i + 1)) := fun wr' va hk hv => LaidR.next HXL.out HLD.out hlt hk hv
      obtain ⟨f, hf⟩ : ∃ f, F[i] = f := ⟨_, rfl⟩
      rw [hf] at k1 k2 HVA HSF HNX
      obtain ⟨pa, ca, rfl, -, -, -, -⟩ := hva
      rw [hf] at k0
      rw [hf] at HVA
      clear hf hlaid hown hB hA
      go_wp2_with (go_at_call 11; refine (toLinRow_any f _ _ HVA.out HSF.out).mono ?_; rintro e w2 ⟨g2, c2, rfl, hr2, hb2⟩; have hown2 := row_below HO.out hb2; have HB2 : Hid (Below w.heap.size w w2) := HB.out.trans (hb2.mono HB.out.size); obtain ⟨x0, e0⟩ := row_at hown2 (i * 3) (by omega); obtain ⟨x1, e1⟩ := row_at hown2 (i * 3 + 1) (by omega); obtain ⟨x2, e2⟩ := row_at hown2 (i * 3 + 2) (by omega); have g0 := hown2.frozenAt (i * 3); have g1 := hown2.frozenAt (i * 3 + 1); have g2' := hown2.frozenAt (i * 3 + 2); have HO2 := hidG hown2; have HR2 := hidG hr2; have HBB := hidG hb2; clear hb2 hown2 hr2)
      have hw4 := (((HO2.out.stored (i * 3) (.slice (some ⟨g2, 0, none⟩) f.cs.length c2)).1.stored (i * 3 + 1) (.bool f.st)).1.stored (i * 3 + 2) (.string (strOf f.bd))).1
      have HW4 := hidG hw4
      have hh : ∀ k, k ≠ w.heap.size → (((w2.setCell ⟨w.heap.size, i * 3, none⟩ (.slice (some ⟨g2, 0, none⟩) f.cs.length c2)).setCell ⟨w.heap.size, i * 3 + 1, none⟩ (.bool f.st)).setCell ⟨w.heap.size, i * 3 + 2, none⟩ (.string (strOf f.bd))).heap[k]? = w2.heap[k]? := fun k hk => by rw [Below.heap_setCell _ ⟨w.heap.size, i * 3 + 2, none⟩ _ _ hk, Below.heap_setCell _ ⟨w.heap.size, i * 3 + 1, none⟩ _ _ hk, Below.heap_setCell _ ⟨w.heap.size, i * 3, none⟩ _ _ hk]
      have HHH := hidG hh
      clear hw4 hh
      go_roundw
      case rel =>
        refine ⟨i + 1, _, by omega, by go_num, HNX.out _ (.slice (some ⟨g2, 0, none⟩) f.cs.length c2) (fun k hk hk2 => (HHH.out k (by omega)).trans (HBB.out.block k hk2)) ?_, HW4.out, ((HB2.out.setCell (p := ⟨w.heap.size, i * 3, none⟩) (Nat.le_refl _) _).setCell (p := ⟨w.heap.size, i * 3 + 1, none⟩) (Nat.le_refl _) _).setCell (p := ⟨w.heap.size, i * 3 + 2, none⟩) (Nat.le_refl _) _⟩
        exact own_lower (own_other' HR2.out (fun g hg => HHH.out g (fun e => by have := own_base HR2.out g hg; have := HLT.out; omega))) HLT.out
      case measure => simp [intOf]; omega
    · have hie : i = F.length := by omega
      subst hie
      clear hown hB hlaid
      go_wp2_with fail
      go_ret
      refine ⟨_, rfl, ⟨_, _, rfl⟩, fun W' hsz hkk => ?_, HB.out⟩
      have HO' : W'.ownsRow _ _ _ _ _ _ := own_other' HO.out (fun g hg => hkk g (own_base HO.out g hg) (HO.out.lt g hg).2)
      refine ⟨_, _, rfl, Nat.le_refl _, by unfold maxLen; omega, .inr ⟨w.heap.size, rfl, Nat.lt_of_lt_of_le HLT.out hsz, fun j hj => ?_⟩⟩
      obtain ⟨⟨va, h0, hva⟩, h1, h2⟩ := HLD.out j hj hj
      refine ⟨⟨va, ?_, strs_at (own_other' hva (fun g hg => hkk g (Nat.le_trans (Nat.le_succ _) (own_base hva g hg)) (hva.lt g hg).2))⟩, ?_, ?_⟩
      · rw [HO'.cellAt (j * 3) (by omega)]; exact h0
      · rw [HO'.cellAt (j * 3 + 1) (by omega)]; exact h1
      · rw [HO'.cellAt (j * 3 + 2) (by omega)]; exact h2
set_option maxRecDepth 100000 in
set_option maxHeartbeats 4000000 in
theorem eqLinRow_same (f : Lr) (va vb : Value) (w : World) (h1 : StrsAt w va f.cs) (h2 : StrsAt w vb f.cs) :
    Calls Try.prog 13 #[.agg #[va, .bool f.st, .string (strOf f.bd)], .agg #[vb, .bool f.st, .string (strOf f.bd)]] w fun e w' => e = .returned (.bool true) ∧ Below w.heap.size w w' := by
  have H1 := hidG h1
  have H2 := hidG h2
  obtain ⟨p1, c1, rfl, -, -, -⟩ := h1
  obtain ⟨p2, c2, rfl, -, -, -⟩ := h2
  generalize strOf f.bd = s2
  go_enter Try.func13, Try.ntmps13
  go_wp2_with fail
  obtain ⟨W2, hW2, hb2, x1, x2, -⟩ := box2 w [.slice p1 f.cs.length c1, .bool f.st, .string s2] [.slice p2 f.cs.length c2, .bool f.st, .string s2] 33 33
  have HB2 := hidG hb2
  have HX1 := hidG x1
  have HX2 := hidG x2
  rw [hW2]
  clear hW2 hb2 x1 x2
  refine (eqStringS_same _ _ f.cs W2 (H1.out.below HB2.out) (H2.out.below HB2.out)).mono ?_
  rintro e w3 ⟨rfl, hb3⟩
  have HB3 : Hid (Below w.heap.size w w3) := HB2.out.trans (hb3.mono HB2.out.size)
  obtain ⟨b0, b1, b2⟩ := (HX1.out.below HX1.out.lt hb3).c3
  obtain ⟨d0, d1, d2⟩ := (HX2.out.below HX2.out.lt hb3).c3
  clear hb3
  cases f.st
  all_goals
   go_wp2_with fail
   go_ret
   exact ⟨rfl, HB3.out⟩
set_option maxRecDepth 100000 in
set_option maxHeartbeats 4000000 in
theorem eqLinRowS_same (v1 v2 : Value) (L : List Lr) (w : World) (h1 : RowsAt w v1 L) (h2 : RowsAt w v2 L) :
    Calls Try.prog 8 #[v1, v2] w fun e w' => e = .returned (.bool true) ∧ Below w.heap.size w w' := by
  obtain ⟨p1, c1, rfl, l1, m1, r1⟩ := h1
  obtain ⟨p2, c2, rfl, l2, m2, r2⟩ := h2
  unfold maxLen at m1 m2
  have H1 := hidG r1
  have H2 := hidG r2
  clear r1 r2
  go_enter Try.func8, Try.ntmps8
  go_wp2_with fail
  go_loopw [5] (fun iv wr => ∃ i : Nat, i ≤ L.length ∧ iv = .int .i64 (i : Nat) ∧ Below w.heap.size w wr) (fun iv _ => L.length - (intOf iv).toNat)
  case atStart => exact ⟨0, Nat.zero_le _, rfl, Below.refl _ _⟩
  case round =>
    obtain ⟨i, hi, rfl, hB⟩ := hrel
    have HB := hidG hB
    by_cases hlt : i < L.length
    · obtain ⟨b1, rfl, hb1, hc1⟩ : ∃ b, p1 = some ⟨b, 0, none⟩ ∧ b < w.heap.size ∧ ∀ i (h : i < L.length), (∃ va, w.cell? ⟨b, i * 3, none⟩ = some va ∧ StrsAt w va L[i].cs) ∧ w.cell? ⟨b, i * 3 + 1, none⟩ = some (.bool L[i].st) ∧ w.cell? ⟨b, i * 3 + 2, none⟩ = some (.string (strOf L[i].bd)) := by
        rcases H1.out with h | h
        · rw [h] at hlt; exact absurd hlt (Nat.not_lt_zero _)
        · exact h
      obtain ⟨b2, rfl, hb2, hc2⟩ : ∃ b, p2 = some ⟨b, 0, none⟩ ∧ b < w.heap.size ∧ ∀ i (h : i < L.length), (∃ va, w.cell? ⟨b, i * 3, none⟩ = some va ∧ StrsAt w va L[i].cs) ∧ w.cell? ⟨b, i * 3 + 1, none⟩ = some (.bool L[i].st) ∧ w.cell? ⟨b, i * 3 + 2, none⟩ = some (.string (strOf L[i].bd)) := by
        rcases H2.out with h | h
        · rw [h] at hlt; exact absurd hlt (Nat.not_lt_zero _)
        · exact h
      obtain ⟨⟨va, k0, hva⟩, k1, k2⟩ := hc1 i hlt
      obtain ⟨⟨vb, m0, hvb⟩, m1, m2⟩ := hc2 i hlt
      obtain ⟨f, hx⟩ : ∃ f, L[i] = f := ⟨_, rfl⟩
      rw [hx] at k1 k2 m1 m2 hva hvb
      have HVA := hidG hva
      have HVB := hidG hvb
      obtain ⟨pa, ca, rfl, -, -, -⟩ := hva
      obtain ⟨pb, cb, rfl, -, -, -⟩ := hvb
      have HCC : Hid (∀ W, Below w.heap.size w W → W.cell? ⟨b1, i * 3, none⟩ = some (.slice pa f.cs.length ca) ∧ W.cell? ⟨b1, i * 3 + 1, none⟩ = some (.bool f.st) ∧ W.cell? ⟨b1, i * 3 + 2, none⟩ = some (.string (strOf f.bd)) ∧ W.cell? ⟨b2, i * 3, none⟩ = some (.slice pb f.cs.length cb) ∧ W.cell? ⟨b2, i * 3 + 1, none⟩ = some (.bool f.st) ∧ W.cell? ⟨b2, i * 3 + 2, none⟩ = some (.string (strOf f.bd))) := fun W h => ⟨(h.cell (p := ⟨b1, i * 3, none⟩) hb1).trans k0, (h.cell (p := ⟨b1, i * 3 + 1, none⟩) hb1).trans k1, (h.cell (p := ⟨b1, i * 3 + 2, none⟩) hb1).trans k2, (h.cell (p := ⟨b2, i * 3, none⟩) hb2).trans m0, (h.cell (p := ⟨b2, i * 3 + 1, none⟩) hb2).trans m1, (h.cell (p := ⟨b2, i * 3 + 2, none⟩) hb2).trans m2⟩
      clear hB hc1 hc2 hx k0 k1 k2 m0 m1 m2
      have i1 : (i : Int) < (L.length : Int) := by omega
      go_wp2_with fail
      go_region_held3 (fun W => W.cell? ⟨b1, i * 3, none⟩ = some (.slice pa f.cs.length ca) ∧ W.cell? ⟨b1, i * 3 + 1, none⟩ = some (.bool f.st) ∧ W.cell? ⟨b1, i * 3 + 2, none⟩ = some (.string (strOf f.bd)) ∧ W.cell? ⟨b2, i * 3, none⟩ = some (.slice pb f.cs.length cb) ∧ W.cell? ⟨b2, i * 3 + 1, none⟩ = some (.bool f.st) ∧ W.cell? ⟨b2, i * 3 + 2, none⟩ = some (.string (strOf f.bd)))
        (first
          | exact HCC.out _ HB.out.drew
          | exact HCC.out _ (HB.out.drew.trans (hbe.mono HB.out.size)))
        ((go_at_call 13; refine (eqLinRow_same f _ _ _ (HVA.out.below HB.out.drew) (HVB.out.below HB.out.drew)).mono ?_; rintro e w2 ⟨rfl, hbe⟩))
      all_goals
        have HB2 : Hid (Below w.heap.size w w2) := HB.out.drew.trans (hbe.mono HB.out.size)
        clear hbe
        go_wp2_with fail
        go_roundw
        case rel => exact ⟨i + 1, by omega, by go_num, HB2.out⟩
        case measure => simp [intOf]; omega
    · clear hB
      go_wp2_with fail
      go_ret
      exact ⟨rfl, HB.out⟩
end Go.Proofs.Ytpimiboiogfhbaa.L
