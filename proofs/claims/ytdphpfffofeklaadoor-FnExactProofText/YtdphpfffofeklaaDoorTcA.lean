import Derived.Test.YtdphpfffofeklaaDoorLrB
namespace Go.Proofs.YtdphpfffofeklaaDoor.L
open Go.ChangeShapes Go.WideShapes Go.ChangeAt Go.RowKit
theorem bx_one {W : World} {g k : Nat} {l : List Value} (h : Bx W g l) (hk : k ≠ g) (i : Nat) (u : Value) : Bx (W.setCell ⟨k, i, none⟩ u) g l := by
  obtain ⟨ty, h⟩ := h
  exact ⟨ty, by rw [Below.heap_setCell _ ⟨k, i, none⟩ _ _ (Ne.symm hk)]; exact h⟩
theorem bx_far {W : World} {g k : Nat} {l : List Value} (h : Bx W g l) (hk : k ≠ g) (i j : Nat) (u v : Value) : Bx ((W.setCell ⟨k, i, none⟩ u).setCell ⟨k, j, none⟩ v) g l := bx_one (bx_one h hk i u) hk j v
/-- A node of a tree: its column, its place, so often each row. -/
structure Tn where
  col : Int
  pl : List UInt8
  mu : List (List UInt8)
/-- Nodes that are handed in. -/
def ArgTree (w : World) (v : Value) (F : List Tn) : Prop :=
  ∃ a c, v = .slice a F.length c ∧ F.length ≤ c ∧ c ≤ maxLen ∧ (∀ f ∈ F, f.pl.length ≤ maxLen ∧ -9223372036854775808 ≤ f.col ∧ f.col ≤ 9223372036854775807) ∧ (F = [] ∨ ∃ b off, a = some ⟨b, off, none⟩ ∧ b < w.heap.size ∧ ∀ i (h : i < F.length), w.cell? ⟨b, off + i * 3, none⟩ = some (.int .i64 F[i].col) ∧ w.cell? ⟨b, off + i * 3 + 1, none⟩ = some (.string (strOf F[i].pl)) ∧ (∃ va, w.cell? ⟨b, off + i * 3 + 2, none⟩ = some va ∧ ArgStrs w va F[i].mu))
theorem ArgTree.below {w w' : World} {v : Value} {F : List Tn} (h : ArgTree w v F) (hb : Below w.heap.size w w') : ArgTree w' v F := by
  obtain ⟨a, c, rfl, h1, h2, h3, h4⟩ := h
  refine ⟨a, c, rfl, h1, h2, h3, ?_⟩
  rcases h4 with h | ⟨b, off, rfl, hlt, hA⟩
  · exact .inl h
  · refine .inr ⟨b, off, rfl, Nat.lt_of_lt_of_le hlt hb.size, fun i hi => ?_⟩
    obtain ⟨k0, k1, va, k2, ha⟩ := hA i hi
    exact ⟨(hb.cell (p := ⟨b, off + i * 3, none⟩) hlt).trans k0, (hb.cell (p := ⟨b, off + i * 3 + 1, none⟩) hlt).trans k1, va, (hb.cell (p := ⟨b, off + i * 3 + 2, none⟩) hlt).trans k2, ha.below hb⟩
/-- Nodes in memory. -/
def TreeAt (w : World) (v : Value) (F : List Tn) : Prop :=
  ∃ p c, v = .slice p F.length c ∧ F.length ≤ c ∧ c ≤ maxLen ∧ (F = [] ∨ ∃ b off, p = some ⟨b, off, none⟩ ∧ b < w.heap.size ∧ ∀ i (h : i < F.length), w.cell? ⟨b, off + i * 3, none⟩ = some (.int .i64 F[i].col) ∧ w.cell? ⟨b, off + i * 3 + 1, none⟩ = some (.string (strOf F[i].pl)) ∧ (∃ va, w.cell? ⟨b, off + i * 3 + 2, none⟩ = some va ∧ StrsAt w va F[i].mu))
theorem TreeAt.below {w w' : World} {v : Value} {F : List Tn} (h : TreeAt w v F) (hb : Below w.heap.size w w') : TreeAt w' v F := by
  obtain ⟨a, c, rfl, h1, h2, h4⟩ := h
  refine ⟨a, c, rfl, h1, h2, ?_⟩
  rcases h4 with h | ⟨b, off, rfl, hlt, hA⟩
  · exact .inl h
  · refine .inr ⟨b, off, rfl, Nat.lt_of_lt_of_le hlt hb.size, fun i hi => ?_⟩
    obtain ⟨k0, k1, va, k2, ha⟩ := hA i hi
    exact ⟨(hb.cell (p := ⟨b, off + i * 3, none⟩) hlt).trans k0, (hb.cell (p := ⟨b, off + i * 3 + 1, none⟩) hlt).trans k1, va, (hb.cell (p := ⟨b, off + i * 3 + 2, none⟩) hlt).trans k2, ha.below hb⟩
def SmallT (f : Tn) : Prop := SmallS f.mu ∧ f.pl.length ≤ 1048576
set_option maxRecDepth 100000 in
set_option maxHeartbeats 4000000 in
theorem szTreeNode_any (f : Tn) (va : Value) (z0 : Nat) (w : World) (h : ArgStrs w va f.mu) (hs : f.pl.length ≤ maxLen) (hz0 : z0 ≤ 1048576) :
    Calls Tryd.prog 35 #[.agg #[.int .i64 f.col, .string (strOf f.pl), va], .int .i64 (z0 : Nat)] w (Sized (SmallT f) w) := by
  have H := hidG h
  obtain ⟨a, c, rfl, -, -, -, -⟩ := h
  have e2 := strOf_size f.pl
  obtain ⟨s2, h2⟩ : ∃ s, strOf f.pl = s := ⟨_, rfl⟩
  rw [h2] at e2 ⊢
  unfold maxLen at hs
  have x2 : (s2.size : Int) ≤ 9223372036854775807 := by omega
  have HE2 := hidG e2
  clear h2 e2
  obtain ⟨W1, hW1⟩ : ∃ W1, w.alloc (.cells #[.int .i64 f.col, .string s2, .slice a f.mu.length c] 79) = W1 := ⟨_, rfl⟩
  have HB1 : Hid (Below w.heap.size w W1) := by unfold Hid; rw [← hW1]; exact below_alloc _ _
  have HX1 : Hid (Bx W1 w.heap.size [.int .i64 f.col, .string s2, .slice a f.mu.length c]) := by unfold Hid; rw [← hW1]; exact bx_new w _ _
  have HW1 := hidG hW1
  clear hW1
  obtain ⟨b0, b1, b2⟩ := HX1.out.c3
  by_cases g2 : z0 < s2.size
  · have y3 : decide ((z0 : Int) - (s2.size : Int) < 0) = true := by rw [decide_eq_true_iff]; omega
    go_enter Tryd.func35, Tryd.ntmps35
    go_wp2_with (rw [HW1.out])
    go_ret
    first
      | exact ⟨.inl rfl, HB1.out⟩
      | (rw [HW1.out]; exact ⟨.inl rfl, HB1.out⟩)
  · have y3 : decide ((z0 : Int) - (s2.size : Int) < 0) = false := by rw [decide_eq_false_iff_not]; omega
    have HC : Hid (Calls Tryd.prog 48 #[.slice a f.mu.length c, .int .i64 ((z0 : Int) - (s2.size : Int))] W1 (Sized (SmallS f.mu) W1)) := by
      unfold Hid
      rw [show (z0 : Int) - (s2.size : Int) = ((z0 - s2.size : Nat) : Int) by omega]
      exact szStringS_any _ f.mu (z0 - s2.size) W1 (H.out.below HB1.out) (by omega)
    go_enter Tryd.func35, Tryd.ntmps35
    go_wp2_with (rw [HW1.out])
    refine HC.out.mono ?_
    rintro e w2 ⟨(rfl | ⟨z2, hz2, rfl, hsm⟩), hb2⟩
    · have HB2 : Hid (Below w.heap.size w w2) := HB1.out.trans (hb2.mono HB1.out.size)
      clear hb2
      go_wp2_with fail
      go_ret
      exact ⟨.inl rfl, HB2.out⟩
    · have HB2 : Hid (Below w.heap.size w w2) := HB1.out.trans (hb2.mono HB1.out.size)
      have HSM := hidG hsm
      have y2 : decide ((z2 : Int) < 0) = false := by rw [decide_eq_false_iff_not]; omega
      clear hb2 hsm
      go_wp2_with fail
      go_ret
      exact ⟨.inr ⟨z2, hz2, rfl, HSM.out, by have := HE2.out; omega⟩, HB2.out⟩
set_option maxRecDepth 100000 in
set_option maxHeartbeats 4000000 in
theorem szTreeNodeS_any (v : Value) (F : List Tn) (z0 : Nat) (w : World) (h : ArgTree w v F) (hz0 : z0 ≤ 1048576) :
    Calls Tryd.prog 19 #[v, .int .i64 (z0 : Nat)] w (Sized (F.length ≤ 1048576 ∧ ∀ f ∈ F, SmallT f) w) := by
  obtain ⟨a, c, rfl, hc, hc2, hts, hA⟩ := h
  unfold maxLen at hc2
  have HA := hidG hA
  have HTS := hidG hts
  clear hA hts
  by_cases hl : z0 < F.length
  · have y : decide ((z0 : Int) - (F.length : Int) < 0) = true := by rw [decide_eq_true_iff]; omega
    go_enter Tryd.func19, Tryd.ntmps19
    go_wp2_with fail
    go_ret
    exact ⟨.inl rfl, Below.refl _ _⟩
  · have y : decide ((z0 : Int) - (F.length : Int) < 0) = false := by rw [decide_eq_false_iff_not]; omega
    go_enter Tryd.func19, Tryd.ntmps19
    go_wp2_with fail
    go_loopw [1, 5] (fun zv iv wr => ∃ (i z : Nat), i ≤ F.length ∧ z ≤ 1048576 ∧ zv = .int .i64 (z : Nat) ∧ iv = .int .i64 (i : Nat) ∧ (∀ j (h : j < F.length), j < i → SmallT F[j]) ∧ Below w.heap.size w wr) (fun _ iv _ => F.length - (intOf iv).toNat)
    case atStart => exact ⟨0, z0 - F.length, Nat.zero_le _, by omega, by go_num, rfl, fun j _ h => absurd h (Nat.not_lt_zero _), Below.refl _ _⟩
    case round =>
      obtain ⟨i, z, hi, hz, rfl, rfl, hsm, hB⟩ := hrel
      have HSM := hidG hsm
      have HB := hidG hB
      clear hsm
      by_cases hlt : i < F.length
      · obtain ⟨b, off, rfl, hb, hA⟩ : ∃ b off, a = some ⟨b, off, none⟩ ∧ b < w.heap.size ∧ ∀ i (h : i < F.length), w.cell? ⟨b, off + i * 3, none⟩ = some (.int .i64 F[i].col) ∧ w.cell? ⟨b, off + i * 3 + 1, none⟩ = some (.string (strOf F[i].pl)) ∧ (∃ va, w.cell? ⟨b, off + i * 3 + 2, none⟩ = some va ∧ ArgStrs w va F[i].mu) := by
          rcases HA.out with h | h
          · rw [h] at hlt; exact absurd hlt (Nat.not_lt_zero _)
          · exact h
        obtain ⟨k0, k1, va, k2, hva⟩ := hA i hlt
        rw [← hB.cell (p := ⟨b, off + i * 3, none⟩) hb] at k0
        rw [← hB.cell (p := ⟨b, off + i * 3 + 1, none⟩) hb] at k1
        rw [← hB.cell (p := ⟨b, off + i * 3 + 2, none⟩) hb] at k2
        have htx := (HTS.out _ (List.getElem_mem hlt)).1
        obtain ⟨f, hf⟩ : ∃ f, F[i] = f := ⟨_, rfl⟩
        have HF := hidG hf
        rw [hf] at k0 k1 hva htx
        have HVA := hidG (hva.below hB)
        have HTX := hidG htx
        obtain ⟨pa, ca, rfl, -, -, -, -⟩ := hva
        clear hf hB hA htx
        go_wp2_with fail
        refine (szTreeNode_any f _ z _ HVA.out HTX.out hz).mono ?_
        rintro e w2 ⟨(rfl | ⟨z2, hz2, rfl, hs2⟩), hb2⟩
        · have HB2 : Hid (Below w.heap.size w w2) := HB.out.trans (hb2.mono HB.out.size)
          clear hb2
          go_wp2_with fail
          go_ret
          exact ⟨.inl rfl, HB2.out⟩
        · have HB2 : Hid (Below w.heap.size w w2) := HB.out.trans (hb2.mono HB.out.size)
          have HS2 := hidG hs2
          have y2 : decide ((z2 : Int) < 0) = false := by rw [decide_eq_false_iff_not]; omega
          clear hb2 hs2
          go_wp2_with fail
          go_roundw
          case rel =>
            refine ⟨i + 1, z2, by omega, hz2, by go_num, by go_num, fun j hj hji => ?_, HB2.out⟩
            by_cases e : j = i
            · subst e; rw [HF.out]; exact HS2.out
            · exact HSM.out j hj (by omega)
          case measure => simp [intOf]; omega
      · have hie : i = F.length := by omega
        subst hie
        clear hB
        go_wp2_with fail
        go_ret
        refine ⟨.inr ⟨z, hz, rfl, by omega, fun s hs => ?_⟩, HB.out⟩
        obtain ⟨j, hj, rfl⟩ := List.getElem_of_mem hs
        exact HSM.out j hj hj
theorem info_tn0 : (Tryd.prog.info? 65).map (fun i => (i.zero, i.size, i.bytes)) = some (some (.agg #[.int .i64 0, .string ⟨#[]⟩, .slice none 0 0]), 3, 48) := by kernel_rfl
theorem info_tn : ∃ i : TypeInfo, Tryd.prog.info? 65 = some i ∧ i.zero = some (.agg #[.int .i64 0, .string ⟨#[]⟩, .slice none 0 0]) ∧ i.size = 3 ∧ i.bytes = 48 := info_parts info_tn0
end Go.Proofs.YtdphpfffofeklaaDoor.L
