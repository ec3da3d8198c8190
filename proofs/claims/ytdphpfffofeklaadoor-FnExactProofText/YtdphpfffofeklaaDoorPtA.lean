import Derived.Test.YtdphpfffofeklaaDoorPtN
namespace Go.Proofs.YtdphpfffofeklaaDoor.P
open Go.ChangeShapes Go.WideShapes Go.ChangeAt Go.RowKit
open L (strOf strOf_toList strOf_size Tn ArgStrs ArgTree hidG below_alloc Bx bx_new)
def sumT {α : Type} (g : α → Nat) (l : List α) (i : Nat) : Nat := ((l.take i).map g).sum
theorem sumT_zero {α : Type} (g : α → Nat) (l : List α) : sumT g l 0 = 0 := by simp [sumT]
theorem sumT_succ {α : Type} (g : α → Nat) {l : List α} {i : Nat} (h : i < l.length) : sumT g l (i + 1) = sumT g l i + g l[i] := by
  unfold sumT
  rw [List.take_succ_eq_append_getElem h, List.map_append, List.sum_append]
  simp
theorem sumT_all {α : Type} (g : α → Nat) (l : List α) : sumT g l l.length = (l.map g).sum := by simp [sumT]
/-- How much a count of sizes takes. -/
def wtS (l : List (List UInt8)) : Nat := l.length + (l.map List.length).sum
def wtT (f : Tn) : Nat := f.pl.length + wtS f.mu
def wtTs (l : List Tn) : Nat := l.length + (l.map wtT).sum
def wtL (l : Lm) : Nat := l.lits.length + l.chain.length + wtTs l.tree
def wtLs (l : List Lm) : Nat := l.length + (l.map wtL).sum
def Wgt (wt z0 : Nat) (w : World) (e : Ending) (w' : World) : Prop := (e = .returned (.int .i64 (-1)) ∨ ∃ z : Nat, z + wt ≤ z0 ∧ e = .returned (.int .i64 (z : Nat))) ∧ Below w.heap.size w w'
def r64 (x : Int) : Prop := -9223372036854775808 ≤ x ∧ x ≤ 9223372036854775807
def ArgInts (w : World) (v : Value) (L : List Int) : Prop :=
  ∃ a c, v = .slice a L.length c ∧ L.length ≤ c ∧ c ≤ maxLen ∧ (∀ x ∈ L, r64 x) ∧ (L = [] ∨ ∃ b off, a = some ⟨b, off, none⟩ ∧ b < w.heap.size ∧ ∀ i (h : i < L.length), w.cell? ⟨b, off + i, none⟩ = some (.int .i64 L[i]))
theorem ArgInts.below {w w' : World} {v : Value} {L : List Int} (h : ArgInts w v L) (hb : Below w.heap.size w w') : ArgInts w' v L := by
  obtain ⟨a, c, rfl, h1, h2, h3, h4⟩ := h
  refine ⟨a, c, rfl, h1, h2, h3, ?_⟩
  rcases h4 with h | ⟨b, off, rfl, hlt, hA⟩
  · exact .inl h
  · exact .inr ⟨b, off, rfl, Nat.lt_of_lt_of_le hlt hb.size, fun i hi => (hb.cell (p := ⟨b, off + i, none⟩) hlt).trans (hA i hi)⟩
def LemC (w : World) (b off : Nat) (l : Lm) : Prop :=
  w.cell? ⟨b, off, none⟩ = some (.int .i64 l.kind) ∧ ∃ va vb vc, w.cell? ⟨b, off + 1, none⟩ = some va ∧ w.cell? ⟨b, off + 2, none⟩ = some vb ∧ w.cell? ⟨b, off + 3, none⟩ = some vc ∧ ArgInts w va l.lits ∧ ArgInts w vb l.chain ∧ ArgTree w vc l.tree
def ArgLems (w : World) (v : Value) (F : List Lm) : Prop :=
  ∃ a c, v = .slice a F.length c ∧ F.length ≤ c ∧ c ≤ maxLen ∧ (∀ l ∈ F, r64 l.kind) ∧ (F = [] ∨ ∃ b off, a = some ⟨b, off, none⟩ ∧ b < w.heap.size ∧ ∀ i (h : i < F.length), LemC w b (off + i * 4) F[i])
theorem LemC.below {w w' : World} {b off : Nat} {l : Lm} (h : LemC w b off l) (hlt : b < w.heap.size) (hb : Below w.heap.size w w') : LemC w' b off l := by
  obtain ⟨k0, va, vb, vc, k1, k2, k3, h1, h2, h3⟩ := h
  exact ⟨(hb.cell (p := ⟨b, off, none⟩) hlt).trans k0, va, vb, vc, (hb.cell (p := ⟨b, off + 1, none⟩) hlt).trans k1, (hb.cell (p := ⟨b, off + 2, none⟩) hlt).trans k2, (hb.cell (p := ⟨b, off + 3, none⟩) hlt).trans k3, h1.below hb, h2.below hb, h3.below hb⟩
theorem ArgLems.below {w w' : World} {v : Value} {F : List Lm} (h : ArgLems w v F) (hb : Below w.heap.size w w') : ArgLems w' v F := by
  obtain ⟨a, c, rfl, h1, h2, h3, h4⟩ := h
  refine ⟨a, c, rfl, h1, h2, h3, ?_⟩
  rcases h4 with h | ⟨b, off, rfl, hlt, hA⟩
  · exact .inl h
  · exact .inr ⟨b, off, rfl, Nat.lt_of_lt_of_le hlt hb.size, fun i hi => (hA i hi).below hlt hb⟩
set_option maxRecDepth 100000 in
set_option maxHeartbeats 4000000 in
theorem szIntS_w (v : Value) (L : List Int) (z0 : Nat) (w : World) (h : ArgInts w v L) (hz0 : z0 ≤ 1048576) :
    Calls Tryd.prog 18 #[v, .int .i64 (z0 : Nat)] w (Wgt L.length z0 w) := by
  obtain ⟨a, c, rfl, hc, hc2, -, -⟩ := h
  unfold maxLen at hc2
  by_cases hl : z0 < L.length
  · have y : decide ((z0 : Int) - (L.length : Int) < 0) = true := by rw [decide_eq_true_iff]; omega
    go_enter Tryd.func18, Tryd.ntmps18
    go_wp2_with fail
    go_ret
    exact ⟨.inl rfl, Below.refl _ _⟩
  · have y : decide ((z0 : Int) - (L.length : Int) < 0) = false := by rw [decide_eq_false_iff_not]; omega
    go_enter Tryd.func18, Tryd.ntmps18
    go_wp2_with fail
    go_ret
    refine ⟨.inr ⟨z0 - L.length, by omega, ?_⟩, Below.refl _ _⟩
    rw [show ((z0 : Int) - (L.length : Int)) = ((z0 - L.length : Nat) : Int) by omega]
    rfl
set_option maxRecDepth 100000 in
set_option maxHeartbeats 4000000 in
theorem szStringS_w (v : Value) (L : List (List UInt8)) (z0 : Nat) (w : World) (h : ArgStrs w v L) (hz0 : z0 ≤ 1048576) :
    Calls Tryd.prog 48 #[v, .int .i64 (z0 : Nat)] w (Wgt (wtS L) z0 w) := by
  obtain ⟨a, c, rfl, hc, hc2, hts, hA⟩ := h
  unfold maxLen at hc2
  have HA := hidG hA
  have HTS := hidG hts
  clear hA hts
  by_cases hl : z0 < L.length
  · have y : decide ((z0 : Int) - (L.length : Int) < 0) = true := by rw [decide_eq_true_iff]; omega
    go_enter Tryd.func48, Tryd.ntmps48
    go_wp2_with fail
    go_ret
    exact ⟨.inl rfl, Below.refl _ _⟩
  · have y : decide ((z0 : Int) - (L.length : Int) < 0) = false := by rw [decide_eq_false_iff_not]; omega
    go_enter Tryd.func48, Tryd.ntmps48
    go_wp2_with fail
    go_loopw [1, 5] (fun zv iv wr => ∃ (i z : Nat), i ≤ L.length ∧ z + (L.length + sumT List.length L i) ≤ z0 ∧ zv = .int .i64 (z : Nat) ∧ iv = .int .i64 (i : Nat) ∧ w = wr) (fun _ iv _ => L.length - (intOf iv).toNat)
    case atStart => exact ⟨0, z0 - L.length, Nat.zero_le _, by rw [sumT_zero]; omega, by go_num, rfl, rfl⟩
    case round =>
      obtain ⟨i, z, hi, hz, rfl, rfl, rfl⟩ := hrel
      have HZ := hidG hz
      have hz1 : z ≤ 1048576 := by omega
      clear hz
      by_cases hlt : i < L.length
      · obtain ⟨b, off, rfl, hb, hA⟩ : ∃ b off, a = some ⟨b, off, none⟩ ∧ b < w.heap.size ∧ ∀ i (h : i < L.length), w.cell? ⟨b, off + i, none⟩ = some (.string (strOf L[i])) := by
          rcases HA.out with h | h
          · rw [h] at hlt; exact absurd hlt (Nat.not_lt_zero _)
          · exact h
        have k0 := hA i hlt
        have htx := HTS.out _ (List.getElem_mem hlt)
        unfold maxLen at htx
        have hs := strOf_size L[i]
        obtain ⟨s, hsd⟩ : ∃ s, strOf L[i] = s := ⟨_, rfl⟩
        rw [hsd] at k0 hs
        have HSZ := hidG hs
        have htx' : (s.size : Int) ≤ 9223372036854775807 := by rw [hs]; omega
        clear hA hsd htx hs
        by_cases hzs : z < s.size
        · have y2 : decide ((z : Int) - (s.size : Int) < 0) = true := by rw [decide_eq_true_iff]; omega
          go_wp2_with fail
          go_ret
          exact ⟨.inl rfl, Below.refl _ _⟩
        · have y2 : decide ((z : Int) - (s.size : Int) < 0) = false := by rw [decide_eq_false_iff_not]; omega
          go_wp2_with fail
          go_roundw
          case rel =>
            refine ⟨i + 1, z - s.size, by omega, ?_, by go_num, by go_num, trivial⟩
            rw [sumT_succ _ hlt, ← HSZ.out]
            have := HZ.out
            omega
          case measure => simp [intOf]; omega
      · have hie : i = L.length := by omega
        subst hie
        go_wp2_with fail
        go_ret
        refine ⟨.inr ⟨z, ?_, rfl⟩, Below.refl _ _⟩
        unfold wtS
        rw [← sumT_all]
        exact HZ.out
set_option maxRecDepth 100000 in
set_option maxHeartbeats 4000000 in
theorem szTreeNode_w (f : Tn) (va : Value) (z0 : Nat) (w : World) (h : ArgStrs w va f.mu) (hs : f.pl.length ≤ maxLen) (hz0 : z0 ≤ 1048576) :
    Calls Tryd.prog 35 #[.agg #[.int .i64 f.col, .string (strOf f.pl), va], .int .i64 (z0 : Nat)] w (Wgt (wtT f) z0 w) := by
  have H := hidG h
  obtain ⟨a, c, rfl, -, -, -, -⟩ := h
  have e2 := strOf_size f.pl
  obtain ⟨s2, h2⟩ : ∃ s, strOf f.pl = s := ⟨_, rfl⟩
  rw [h2] at e2 ⊢
  unfold maxLen at hs
  have x2 : (s2.size : Int) ≤ 9223372036854775807 := by omega
  have HE2 := hidG e2
  clear h2 e2
  obtain ⟨W1, hW1⟩ : ∃ W1, w.alloc (.cells #[.int .i64 f.col, .string s2, .slice a f.mu.length c] 79) = W1 := ⟨_, rfl⟩
  have HB1 : Hid (Below w.heap.size w W1) := by unfold Hid; rw [← hW1]; exact below_alloc _ _
  have HX1 : Hid (Bx W1 w.heap.size [.int .i64 f.col, .string s2, .slice a f.mu.length c]) := by unfold Hid; rw [← hW1]; exact bx_new w _ _
  have HW1 := hidG hW1
  clear hW1
  obtain ⟨b0, b1, b2⟩ := HX1.out.c3
  by_cases g2 : z0 < s2.size
  · have y3 : decide ((z0 : Int) - (s2.size : Int) < 0) = true := by rw [decide_eq_true_iff]; omega
    go_enter Tryd.func35, Tryd.ntmps35
    go_wp2_with (rw [HW1.out])
    go_ret
    first
      | exact ⟨.inl rfl, HB1.out⟩
      | (rw [HW1.out]; exact ⟨.inl rfl, HB1.out⟩)
  · have y3 : decide ((z0 : Int) - (s2.size : Int) < 0) = false := by rw [decide_eq_false_iff_not]; omega
    have HC : Hid (Calls Tryd.prog 48 #[.slice a f.mu.length c, .int .i64 ((z0 : Int) - (s2.size : Int))] W1 (Wgt (wtS f.mu) (z0 - s2.size) W1)) := by
      unfold Hid
      rw [show (z0 : Int) - (s2.size : Int) = ((z0 - s2.size : Nat) : Int) by omega]
      exact szStringS_w _ f.mu (z0 - s2.size) W1 (H.out.below HB1.out) (by omega)
    go_enter Tryd.func35, Tryd.ntmps35
    go_wp2_with (rw [HW1.out])
    refine HC.out.mono ?_
    rintro e w2 ⟨(rfl | ⟨z2, hz2, rfl⟩), hb2⟩
    · have HB2 : Hid (Below w.heap.size w w2) := HB1.out.trans (hb2.mono HB1.out.size)
      clear hb2
      go_wp2_with fail
      go_ret
      exact ⟨.inl rfl, HB2.out⟩
    · have HB2 : Hid (Below w.heap.size w w2) := HB1.out.trans (hb2.mono HB1.out.size)
      have HZ2 := hidG hz2
      have y2 : decide ((z2 : Int) < 0) = false := by rw [decide_eq_false_iff_not]; omega
      clear hb2 hz2
      go_wp2_with fail
      go_ret
      refine ⟨.inr ⟨z2, ?_, rfl⟩, HB2.out⟩
      unfold wtT
      have := HE2.out
      have := HZ2.out
      omega
set_option maxRecDepth 100000 in
set_option maxHeartbeats 4000000 in
theorem szTreeNodeS_w (v : Value) (F : List Tn) (z0 : Nat) (w : World) (h : ArgTree w v F) (hz0 : z0 ≤ 1048576) :
    Calls Tryd.prog 19 #[v, .int .i64 (z0 : Nat)] w (Wgt (wtTs F) z0 w) := by
  obtain ⟨a, c, rfl, hc, hc2, hts, hA⟩ := h
  unfold maxLen at hc2
  have HA := hidG hA
  have HTS := hidG hts
  clear hA hts
  by_cases hl : z0 < F.length
  · have y : decide ((z0 : Int) - (F.length : Int) < 0) = true := by rw [decide_eq_true_iff]; omega
    go_enter Tryd.func19, Tryd.ntmps19
    go_wp2_with fail
    go_ret
    exact ⟨.inl rfl, Below.refl _ _⟩
  · have y : decide ((z0 : Int) - (F.length : Int) < 0) = false := by rw [decide_eq_false_iff_not]; omega
    go_enter Tryd.func19, Tryd.ntmps19
    go_wp2_with fail
    go_loopw [1, 5] (fun zv iv wr => ∃ (i z : Nat), i ≤ F.length ∧ z + (F.length + sumT wtT F i) ≤ z0 ∧ zv = .int .i64 (z : Nat) ∧ iv = .int .i64 (i : Nat) ∧ Below w.heap.size w wr) (fun _ iv _ => F.length - (intOf iv).toNat)
    case atStart => exact ⟨0, z0 - F.length, Nat.zero_le _, by rw [sumT_zero]; omega, by go_num, rfl, Below.refl _ _⟩
    case round =>
      obtain ⟨i, z, hi, hz, rfl, rfl, hB⟩ := hrel
      have HZ := hidG hz
      have hz1 : z ≤ 1048576 := by omega
      have HB := hidG hB
      clear hz
      by_cases hlt : i < F.length
      · obtain ⟨b, off, rfl, hb, hA⟩ : ∃ b off, a = some ⟨b, off, none⟩ ∧ b < w.heap.size ∧ ∀ i (h : i < F.length), w.cell? ⟨b, off + i * 3, none⟩ = some (.int .i64 F[i].col) ∧ w.cell? ⟨b, off + i * 3 + 1, none⟩ = some (.string (strOf F[i].pl)) ∧ (∃ va, w.cell? ⟨b, off + i * 3 + 2, none⟩ = some va ∧ ArgStrs w va F[i].mu) := by
          rcases HA.out with h | h
          · rw [h] at hlt; exact absurd hlt (Nat.not_lt_zero _)
          · exact h
        obtain ⟨k0, k1, va, k2, hva⟩ := hA i hlt
        rw [← hB.cell (p := ⟨b, off + i * 3, none⟩) hb] at k0
        rw [← hB.cell (p := ⟨b, off + i * 3 + 1, none⟩) hb] at k1
        rw [← hB.cell (p := ⟨b, off + i * 3 + 2, none⟩) hb] at k2
        have htx := (HTS.out _ (List.getElem_mem hlt)).1
        obtain ⟨f, hf⟩ : ∃ f, F[i] = f := ⟨_, rfl⟩
        have HF := hidG hf
        rw [hf] at k0 k1 hva htx
        have HVA := hidG (hva.below hB)
        have HTX := hidG htx
        obtain ⟨pa, ca, rfl, -, -, -, -⟩ := hva
        clear hf hB hA htx
        go_wp2_with fail
        refine (szTreeNode_w f _ z _ HVA.out HTX.out hz1).mono ?_
        rintro e w2 ⟨(rfl | ⟨z2, hz2, rfl⟩), hb2⟩
        · have HB2 : Hid (Below w.heap.size w w2) := HB.out.trans (hb2.mono HB.out.size)
          clear hb2
          go_wp2_with fail
          go_ret
          exact ⟨.inl rfl, HB2.out⟩
        · have HB2 : Hid (Below w.heap.size w w2) := HB.out.trans (hb2.mono HB.out.size)
          have HZ2 := hidG hz2
          have y2 : decide ((z2 : Int) < 0) = false := by rw [decide_eq_false_iff_not]; omega
          clear hb2 hz2
          go_wp2_with fail
          go_roundw
          case rel =>
            refine ⟨i + 1, z2, by omega, ?_, by go_num, by go_num, HB2.out⟩
            rw [sumT_succ _ hlt, HF.out]
            have := HZ.out
            have := HZ2.out
            omega
          case measure => simp [intOf]; omega
      · have hie : i = F.length := by omega
        subst hie
        clear hB
        go_wp2_with fail
        go_ret
        refine ⟨.inr ⟨z, ?_, rfl⟩, HB.out⟩
        unfold wtTs
        rw [← sumT_all]
        exact HZ.out
set_option maxRecDepth 100000 in
set_option maxHeartbeats 4000000 in
theorem szLemma_w (f : Lm) (va vb vc : Value) (z0 : Nat) (w : World) (h1 : ArgInts w va f.lits) (h2 : ArgInts w vb f.chain) (h3 : ArgTree w vc f.tree) (hz0 : z0 ≤ 1048576) :
    Calls Tryd.prog 9 #[.agg #[.int .i64 f.kind, va, vb, vc], .int .i64 (z0 : Nat)] w (Wgt (wtL f) z0 w) := by
  have H1 := hidG h1
  have H2 := hidG h2
  have H3 := hidG h3
  obtain ⟨a1, c1, rfl, -, -, -, -⟩ := h1
  obtain ⟨a2, c2, rfl, -, -, -, -⟩ := h2
  obtain ⟨a3, c3, rfl, -, -, -, -⟩ := h3
  obtain ⟨W1, hW1⟩ : ∃ W1, w.alloc (.cells #[.int .i64 f.kind, .slice a1 f.lits.length c1, .slice a2 f.chain.length c2, .slice a3 f.tree.length c3] 33) = W1 := ⟨_, rfl⟩
  have HB1 : Hid (Below w.heap.size w W1) := by unfold Hid; rw [← hW1]; exact below_alloc _ _
  have HX1 : Hid (Bx W1 w.heap.size [.int .i64 f.kind, .slice a1 f.lits.length c1, .slice a2 f.chain.length c2, .slice a3 f.tree.length c3]) := by unfold Hid; rw [← hW1]; exact bx_new w _ _
  have HW1 := hidG hW1
  clear hW1
  have b0 := HX1.out.cell 0
  have b1 := HX1.out.cell 1
  have b2 := HX1.out.cell 2
  have b3 := HX1.out.cell 3
  simp only [List.getElem?_cons_zero, List.getElem?_cons_succ] at b0 b1 b2 b3
  go_enter Tryd.func9, Tryd.ntmps9
  go_wp2_with (rw [HW1.out])
  refine (szIntS_w _ f.lits z0 W1 (H1.out.below HB1.out) hz0).mono ?_
  rintro e w2 ⟨(rfl | ⟨z2, hz2, rfl⟩), hb2⟩
  · have HB2 : Hid (Below w.heap.size w w2) := HB1.out.trans (hb2.mono HB1.out.size)
    clear hb2
    go_wp2_with fail
    go_ret
    exact ⟨.inl rfl, HB2.out⟩
  have HB2 : Hid (Below w.heap.size w w2) := HB1.out.trans (hb2.mono HB1.out.size)
  have HX2 := hidG (HX1.out.below HX1.out.lt hb2)
  have HZ2 := hidG hz2
  have y2 : decide ((z2 : Int) < 0) = false := by rw [decide_eq_false_iff_not]; omega
  have z2l : z2 ≤ 1048576 := by omega
  clear hb2 hz2 b0 b1 b2 b3
  have b2 := HX2.out.cell 2
  have b3 := HX2.out.cell 3
  simp only [List.getElem?_cons_zero, List.getElem?_cons_succ] at b2 b3
  go_wp2_with fail
  refine (szIntS_w _ f.chain z2 w2 (H2.out.below HB2.out) z2l).mono ?_
  rintro e w3 ⟨(rfl | ⟨z3, hz3, rfl⟩), hb3⟩
  · have HB3 : Hid (Below w.heap.size w w3) := HB2.out.trans (hb3.mono HB2.out.size)
    clear hb3
    go_wp2_with fail
    go_ret
    exact ⟨.inl rfl, HB3.out⟩
  have HB3 : Hid (Below w.heap.size w w3) := HB2.out.trans (hb3.mono HB2.out.size)
  have HX3 := hidG (HX2.out.below HX2.out.lt hb3)
  have HZ3 := hidG hz3
  have y3 : decide ((z3 : Int) < 0) = false := by rw [decide_eq_false_iff_not]; omega
  have z3l : z3 ≤ 1048576 := by omega
  clear hb3 hz3 b2 b3
  have b3 := HX3.out.cell 3
  simp only [List.getElem?_cons_zero, List.getElem?_cons_succ] at b3
  go_wp2_with fail
  refine (szTreeNodeS_w _ f.tree z3 w3 (H3.out.below HB3.out) z3l).mono ?_
  rintro e w4 ⟨(rfl | ⟨z4, hz4, rfl⟩), hb4⟩
  · have HB4 : Hid (Below w.heap.size w w4) := HB3.out.trans (hb4.mono HB3.out.size)
    clear hb4
    go_wp2_with fail
    go_ret
    exact ⟨.inl rfl, HB4.out⟩
  have HB4 : Hid (Below w.heap.size w w4) := HB3.out.trans (hb4.mono HB3.out.size)
  have HZ4 := hidG hz4
  have y4 : decide ((z4 : Int) < 0) = false := by rw [decide_eq_false_iff_not]; omega
  clear hb4 hz4
  go_wp2_with fail
  go_ret
  refine ⟨.inr ⟨z4, ?_, rfl⟩, HB4.out⟩
  unfold wtL
  have := HZ2.out
  have := HZ3.out
  have := HZ4.out
  omega
set_option maxRecDepth 100000 in
set_option maxHeartbeats 4000000 in
theorem szLemmaS_w (v : Value) (F : List Lm) (z0 : Nat) (w : World) (h : ArgLems w v F) (hz0 : z0 ≤ 1048576) :
    Calls Tryd.prog 4 #[v, .int .i64 (z0 : Nat)] w (Wgt (wtLs F) z0 w) := by
  obtain ⟨a, c, rfl, hc, hc2, hts, hA⟩ := h
  unfold maxLen at hc2
  have HA := hidG hA
  have HTS := hidG hts
  clear hA hts
  by_cases hl : z0 < F.length
  · have y : decide ((z0 : Int) - (F.length : Int) < 0) = true := by rw [decide_eq_true_iff]; omega
    go_enter Tryd.func4, Tryd.ntmps4
    go_wp2_with fail
    go_ret
    exact ⟨.inl rfl, Below.refl _ _⟩
  · have y : decide ((z0 : Int) - (F.length : Int) < 0) = false := by rw [decide_eq_false_iff_not]; omega
    go_enter Tryd.func4, Tryd.ntmps4
    go_wp2_with fail
    go_loopw [1, 5] (fun zv iv wr => ∃ (i z : Nat), i ≤ F.length ∧ z + (F.length + sumT wtL F i) ≤ z0 ∧ zv = .int .i64 (z : Nat) ∧ iv = .int .i64 (i : Nat) ∧ Below w.heap.size w wr) (fun _ iv _ => F.length - (intOf iv).toNat)
    case atStart => exact ⟨0, z0 - F.length, Nat.zero_le _, by rw [sumT_zero]; omega, by go_num, rfl, Below.refl _ _⟩
    case round =>
      obtain ⟨i, z, hi, hz, rfl, rfl, hB⟩ := hrel
      have HZ := hidG hz
      have hz1 : z ≤ 1048576 := by omega
      have HB := hidG hB
      clear hz
      by_cases hlt : i < F.length
      · obtain ⟨b, off, rfl, hb, hA⟩ : ∃ b off, a = some ⟨b, off, none⟩ ∧ b < w.heap.size ∧ ∀ i (h : i < F.length), LemC w b (off + i * 4) F[i] := by
          rcases HA.out with h | h
          · rw [h] at hlt; exact absurd hlt (Nat.not_lt_zero _)
          · exact h
        obtain ⟨k0, va, vb, vc, k1, k2, k3, hva, hvb, hvc⟩ := (hA i hlt).below hb hB
        obtain ⟨f, hf⟩ : ∃ f, F[i] = f := ⟨_, rfl⟩
        have HF := hidG hf
        rw [hf] at k0 hva hvb hvc
        have HVA := hidG hva
        have HVB := hidG hvb
        have HVC := hidG hvc
        obtain ⟨pa, ca, rfl, -, -, -, -⟩ := hva
        obtain ⟨pb, cb, rfl, -, -, -, -⟩ := hvb
        obtain ⟨pc, cc, rfl, -, -, -, -⟩ := hvc
        clear hf hB hA
        go_wp2_with fail
        refine (szLemma_w f _ _ _ z _ HVA.out HVB.out HVC.out hz1).mono ?_
        rintro e w2 ⟨(rfl | ⟨z2, hz2, rfl⟩), hb2⟩
        · have HB2 : Hid (Below w.heap.size w w2) := HB.out.trans (hb2.mono HB.out.size)
          clear hb2
          go_wp2_with fail
          go_ret
          exact ⟨.inl rfl, HB2.out⟩
        · have HB2 : Hid (Below w.heap.size w w2) := HB.out.trans (hb2.mono HB.out.size)
          have HZ2 := hidG hz2
          have y2 : decide ((z2 : Int) < 0) = false := by rw [decide_eq_false_iff_not]; omega
          clear hb2 hz2
          go_wp2_with fail
          go_roundw
          case rel =>
            refine ⟨i + 1, z2, by omega, ?_, by go_num, by go_num, HB2.out⟩
            rw [sumT_succ _ hlt, HF.out]
            have := HZ.out
            have := HZ2.out
            omega
          case measure => simp [intOf]; omega
      · have hie : i = F.length := by omega
        subst hie
        clear hB
        go_wp2_with fail
        go_ret
        refine ⟨.inr ⟨z, ?_, rfl⟩, HB.out⟩
        unfold wtLs
        rw [← sumT_all]
        exact HZ.out
end Go.Proofs.YtdphpfffofeklaaDoor.P
