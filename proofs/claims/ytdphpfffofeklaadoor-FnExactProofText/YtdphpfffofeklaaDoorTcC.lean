import Derived.Test.YtdphpfffofeklaaDoorTcB
namespace Go.Proofs.YtdphpfffofeklaaDoor.L
open Go.ChangeShapes Go.WideShapes Go.ChangeAt Go.RowKit
set_option maxRecDepth 100000 in
set_option maxHeartbeats 4000000 in
theorem eqTreeNode_same (f : Tn) (va vb : Value) (w : World) (h1 : StrsAt w va f.mu) (h2 : StrsAt w vb f.mu) :
    Calls Tryd.prog 47 #[.agg #[.int .i64 f.col, .string (strOf f.pl), va], .agg #[.int .i64 f.col, .string (strOf f.pl), vb]] w fun e w' => e = .returned (.bool true) ∧ Below w.heap.size w w' := by
  have H1 := hidG h1
  have H2 := hidG h2
  obtain ⟨p1, c1, rfl, -, -, -⟩ := h1
  obtain ⟨p2, c2, rfl, -, -, -⟩ := h2
  generalize strOf f.pl = s2
  generalize f.col = k
  obtain ⟨W2, hW2, hb2, x1, x2, -⟩ := box2 w [.int .i64 k, .string s2, .slice p1 f.mu.length c1] [.int .i64 k, .string s2, .slice p2 f.mu.length c2] 65 65
  have HW2 := hidG hW2
  have HB2 := hidG hb2
  obtain ⟨b0, b1, b2⟩ := x1.c3
  obtain ⟨d0, d1, d2⟩ := x2.c3
  clear hW2 hb2 x1 x2
  go_enter Tryd.func47, Tryd.ntmps47
  go_wp2_with (rw [HW2.out])
  refine (eqStringS_same _ _ f.mu W2 (H1.out.below HB2.out) (H2.out.below HB2.out)).mono ?_
  rintro e w3 ⟨rfl, hb3⟩
  have HB3 : Hid (Below w.heap.size w w3) := HB2.out.trans (hb3.mono HB2.out.size)
  clear hb3
  go_wp2_with fail
  go_ret
  exact ⟨rfl, HB3.out⟩
set_option maxRecDepth 100000 in
set_option maxHeartbeats 4000000 in
theorem eqTreeNodeS_same (v1 v2 : Value) (L : List Tn) (w : World) (h1 : TreeAt w v1 L) (h2 : TreeAt w v2 L) :
    Calls Tryd.prog 34 #[v1, v2] w fun e w' => e = .returned (.bool true) ∧ Below w.heap.size w w' := by
  obtain ⟨p1, c1, rfl, l1, m1, r1⟩ := h1
  obtain ⟨p2, c2, rfl, l2, m2, r2⟩ := h2
  unfold maxLen at m1 m2
  have H1 := hidG r1
  have H2 := hidG r2
  clear r1 r2
  go_enter Tryd.func34, Tryd.ntmps34
  go_wp2_with fail
  go_loopw [5] (fun iv wr => ∃ i : Nat, i ≤ L.length ∧ iv = .int .i64 (i : Nat) ∧ Below w.heap.size w wr) (fun iv _ => L.length - (intOf iv).toNat)
  case atStart => exact ⟨0, Nat.zero_le _, rfl, Below.refl _ _⟩
  case round =>
    obtain ⟨i, hi, rfl, hB⟩ := hrel
    have HB := hidG hB
    by_cases hlt : i < L.length
    · obtain ⟨b1, o1, rfl, hb1, hc1⟩ : ∃ b off, p1 = some ⟨b, off, none⟩ ∧ b < w.heap.size ∧ ∀ i (h : i < L.length), w.cell? ⟨b, off + i * 3, none⟩ = some (.int .i64 L[i].col) ∧ w.cell? ⟨b, off + i * 3 + 1, none⟩ = some (.string (strOf L[i].pl)) ∧ (∃ va, w.cell? ⟨b, off + i * 3 + 2, none⟩ = some va ∧ StrsAt w va L[i].mu) := by
        rcases H1.out with h | h
        · rw [h] at hlt; exact absurd hlt (Nat.not_lt_zero _)
        · exact h
      obtain ⟨b2, o2, rfl, hb2, hc2⟩ : ∃ b off, p2 = some ⟨b, off, none⟩ ∧ b < w.heap.size ∧ ∀ i (h : i < L.length), w.cell? ⟨b, off + i * 3, none⟩ = some (.int .i64 L[i].col) ∧ w.cell? ⟨b, off + i * 3 + 1, none⟩ = some (.string (strOf L[i].pl)) ∧ (∃ va, w.cell? ⟨b, off + i * 3 + 2, none⟩ = some va ∧ StrsAt w va L[i].mu) := by
        rcases H2.out with h | h
        · rw [h] at hlt; exact absurd hlt (Nat.not_lt_zero _)
        · exact h
      obtain ⟨k0, k1, va, k2, hva⟩ := hc1 i hlt
      obtain ⟨m0, m1, vb, m2, hvb⟩ := hc2 i hlt
      obtain ⟨f, hx⟩ : ∃ f, L[i] = f := ⟨_, rfl⟩
      rw [hx] at k0 k1 m0 m1 hva hvb
      have HVA := hidG hva
      have HVB := hidG hvb
      obtain ⟨pa, ca, rfl, -, -, -⟩ := hva
      obtain ⟨pb, cb, rfl, -, -, -⟩ := hvb
      have HCC : Hid (∀ W, Below w.heap.size w W → W.cell? ⟨b1, o1 + i * 3, none⟩ = some (.int .i64 f.col) ∧ W.cell? ⟨b1, o1 + i * 3 + 1, none⟩ = some (.string (strOf f.pl)) ∧ W.cell? ⟨b1, o1 + i * 3 + 2, none⟩ = some (.slice pa f.mu.length ca) ∧ W.cell? ⟨b2, o2 + i * 3, none⟩ = some (.int .i64 f.col) ∧ W.cell? ⟨b2, o2 + i * 3 + 1, none⟩ = some (.string (strOf f.pl)) ∧ W.cell? ⟨b2, o2 + i * 3 + 2, none⟩ = some (.slice pb f.mu.length cb)) := fun W h => ⟨(h.cell (p := ⟨b1, o1 + i * 3, none⟩) hb1).trans k0, (h.cell (p := ⟨b1, o1 + i * 3 + 1, none⟩) hb1).trans k1, (h.cell (p := ⟨b1, o1 + i * 3 + 2, none⟩) hb1).trans k2, (h.cell (p := ⟨b2, o2 + i * 3, none⟩) hb2).trans m0, (h.cell (p := ⟨b2, o2 + i * 3 + 1, none⟩) hb2).trans m1, (h.cell (p := ⟨b2, o2 + i * 3 + 2, none⟩) hb2).trans m2⟩
      clear hB hc1 hc2 hx k0 k1 k2 m0 m1 m2
      have i1 : (i : Int) < (L.length : Int) := by omega
      go_wp2_with fail
      go_region_held3 (fun W => W.cell? ⟨b1, o1 + i * 3, none⟩ = some (.int .i64 f.col) ∧ W.cell? ⟨b1, o1 + i * 3 + 1, none⟩ = some (.string (strOf f.pl)) ∧ W.cell? ⟨b1, o1 + i * 3 + 2, none⟩ = some (.slice pa f.mu.length ca) ∧ W.cell? ⟨b2, o2 + i * 3, none⟩ = some (.int .i64 f.col) ∧ W.cell? ⟨b2, o2 + i * 3 + 1, none⟩ = some (.string (strOf f.pl)) ∧ W.cell? ⟨b2, o2 + i * 3 + 2, none⟩ = some (.slice pb f.mu.length cb))
        (first
          | exact HCC.out _ HB.out.drew
          | exact HCC.out _ (HB.out.drew.trans (hbe.mono HB.out.size)))
        ((go_at_call 47; refine (eqTreeNode_same f _ _ _ (HVA.out.below HB.out.drew) (HVB.out.below HB.out.drew)).mono ?_; rintro e w2 ⟨rfl, hbe⟩))
      all_goals
        have HB2 : Hid (Below w.heap.size w w2) := HB.out.drew.trans (hbe.mono HB.out.size)
        clear hbe
        go_wp2_with fail
        go_roundw
        case rel => exact ⟨i + 1, by omega, by go_num, HB2.out⟩
        case measure => simp [intOf]; omega
    · clear hB
      go_wp2_with fail
      go_ret
      exact ⟨rfl, HB.out⟩
end Go.Proofs.YtdphpfffofeklaaDoor.L
