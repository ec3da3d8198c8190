import Derived.Test.YtdphpfffofeklaaDoorPtB
namespace Go.Proofs.YtdphpfffofeklaaDoor.P
open Go.ChangeShapes Go.WideShapes Go.ChangeAt Go.RowKit
open L (strOf strOf_toList strOf_size Tn ArgStrs ArgTree hidG below_alloc Bx bx_new SmallS SmallT row_at row_below own_lower own_base own_other' Stays TreeAt box2 box3 bx_far bx_one eqTreeNodeS_same up_alloc)
theorem c4 {W : World} {g : Nat} {v0 v1 v2 v3 : Value} (h : Bx W g [v0, v1, v2, v3]) : W.cell? ⟨g, 0, none⟩ = some v0 ∧ W.cell? ⟨g, 1, none⟩ = some v1 ∧ W.cell? ⟨g, 2, none⟩ = some v2 ∧ W.cell? ⟨g, 3, none⟩ = some v3 := ⟨h.cell 0, h.cell 1, h.cell 2, h.cell 3⟩
def SmallL (f : Lm) : Prop := f.lits.length ≤ 1048576 ∧ f.chain.length ≤ 1048576 ∧ f.tree.length ≤ 1048576 ∧ ∀ t ∈ f.tree, SmallT t
/-- What a lemma's own rows are, in new memory from N on. -/
structure LemN (w : World) (N : Nat) (v1 v2 v3 : Value) (f : Lm) : Prop where
  a : w.ownsRow N 3 1 v1 f.lits.length (intsC f.lits)
  b : w.ownsRow N 3 1 v2 f.chain.length (intsC f.chain)
  c : Stays N w (fun W => TreeAt W v3 f.tree)
theorem LemN.keep {w w' : World} {N N' : Nat} {v1 v2 v3 : Value} {f : Lm} (h : LemN w N v1 v2 v3 f) (hN : N' ≤ N) (hs : w.heap.size ≤ w'.heap.size) (hk : ∀ k, N ≤ k → k < w.heap.size → w'.heap[k]? = w.heap[k]?) : LemN w' N' v1 v2 v3 f :=
  ⟨own_lower (own_other' h.a (fun g hg => hk g (own_base h.a g hg) (h.a.lt g hg).2)) hN, own_lower (own_other' h.b (fun g hg => hk g (own_base h.b g hg) (h.b.lt g hg).2)) hN, fun W h1 h2 => h.c W (by omega) (fun k h3 h4 => (h2 k (by omega) (by omega)).trans (hk k h3 h4))⟩
/-- While a lemma is copied. -/
structure TS (w : World) (args vals : List Value) (W : World) : Prop where
  bel : Below w.heap.size w W
  x1 : Bx W w.heap.size args
  x2 : Bx W (w.heap.size + 1) [.int .i64 0, .slice none 0 0, .slice none 0 0, .slice none 0 0]
  x3 : Bx W (w.heap.size + 1 + 1) vals
  sz : w.heap.size + 1 + 1 + 1 ≤ W.heap.size
theorem TS.call {w W W' : World} {args vals : List Value} (h : TS w args vals W) (hb : Below W.heap.size W W') : TS w args vals W' :=
  ⟨h.bel.trans (hb.mono h.bel.size), h.x1.below h.x1.lt hb, h.x2.below h.x2.lt hb, h.x3.below h.x3.lt hb, by have := hb.size; have := h.sz; omega⟩
theorem TS.set {w W : World} {args vals : List Value} (h : TS w args vals W) (i : Nat) (v : Value) : TS w args (vals.set i v) (W.setCell ⟨w.heap.size + 1 + 1, i, none⟩ v) :=
  ⟨h.bel.setCell (p := ⟨w.heap.size + 1 + 1, i, none⟩) (by show _ ≤ w.heap.size + 1 + 1; omega) _, bx_one h.x1 (by omega) _ _, bx_one h.x2 (by omega) _ _, h.x3.set i v, by have := h.sz; simpa using this⟩
theorem ts_new (w : World) (args vals : List Value) (ta tb : TypeId) : ∃ W3, ((w.alloc (.cells args.toArray ta)).alloc (.cells #[.int .i64 0, .slice none 0 0, .slice none 0 0, .slice none 0 0] tb)).alloc (.cells vals.toArray tb) = W3 ∧ TS w args vals W3 := by
  obtain ⟨W3, h, hb, x1, x2, x3, hs⟩ := box3 w args [.int .i64 0, .slice none 0 0, .slice none 0 0, .slice none 0 0] vals ta tb tb
  exact ⟨W3, h, hb, x1, x2, x3, by omega⟩
set_option maxRecDepth 100000 in
set_option maxHeartbeats 8000000 in
theorem toLemma_any (f : Lm) (va vb vc : Value) (w : World) (h1 : ArgInts w va f.lits) (h2 : ArgInts w vb f.chain) (h3 : ArgTree w vc f.tree) (hs : SmallL f) :
    Calls Tryd.prog 12 #[.agg #[.int .i64 f.kind, va, vb, vc]] w fun e w' => ∃ v1 v2 v3, e = .returned (.agg #[.int .i64 f.kind, v1, v2, v3]) ∧ ((∃ p c, v1 = .slice p f.lits.length c) ∧ (∃ p c, v2 = .slice p f.chain.length c) ∧ (∃ p c, v3 = .slice p f.tree.length c)) ∧ LemN w' w.heap.size v1 v2 v3 f ∧ Below w.heap.size w w' := by
  have H1 := hidG h1
  have H2 := hidG h2
  have H3 := hidG h3
  have HS := hidG hs
  obtain ⟨a1, c1, rfl, -, -, -, -⟩ := h1
  obtain ⟨a2, c2, rfl, -, -, -, -⟩ := h2
  obtain ⟨a3, c3, rfl, -, -, -, -⟩ := h3
  obtain ⟨W3, hW3, hT⟩ := ts_new w [.int .i64 f.kind, .slice a1 f.lits.length c1, .slice a2 f.chain.length c2, .slice a3 f.tree.length c3] [.int .i64 0, .slice none 0 0, .slice none 0 0, .slice none 0 0] 33 40
  have HW3 := hidG hW3
  have HT3 := hidG hT
  obtain ⟨b0, b1, -, -⟩ := c4 hT.x1
  obtain ⟨q0, -, -, -⟩ := c4 hT.x3
  have r0 := hT.x3.frozen 0
  clear hW3 hT hs
  go_enter Tryd.func12, Tryd.ntmps12
  obtain ⟨W4, hW4⟩ : ∃ W4, W3.setCell ⟨w.heap.size + 1 + 1, 0, none⟩ (.int .i64 f.kind) = W4 := ⟨_, rfl⟩
  have HT4 : Hid (TS w [.int .i64 f.kind, .slice a1 f.lits.length c1, .slice a2 f.chain.length c2, .slice a3 f.tree.length c3] [.int .i64 f.kind, .slice none 0 0, .slice none 0 0, .slice none 0 0] W4) := by unfold Hid; rw [← hW4]; exact HT3.out.set 0 _
  have d1 := (c4 HT4.out.x1).2.1
  have HW4 := hidG hW4
  clear hW4
  go_wp2_with (first | rw [HW3.out] | rw [HW4.out])
  refine (toIntS_any _ f.lits W4 (H1.out.below HT4.out.bel) HS.out.1).mono ?_
  rintro e w5 ⟨g5, c5, rfl, hown5, hb5⟩
  have HO5 := hidG hown5
  have HT5 := hidG (HT4.out.call hb5)
  have s4 := HT4.out.sz
  obtain ⟨-, y1, -, -⟩ := c4 HT5.out.x3
  have y1f := HT5.out.x3.frozen 1
  obtain ⟨W6, hW6⟩ : ∃ W6, w5.setCell ⟨w.heap.size + 1 + 1, 1, none⟩ (.slice (some ⟨g5, 0, none⟩) f.lits.length c5) = W6 := ⟨_, rfl⟩
  have HT6 : Hid (TS w [.int .i64 f.kind, .slice a1 f.lits.length c1, .slice a2 f.chain.length c2, .slice a3 f.tree.length c3] [.int .i64 f.kind, .slice (some ⟨g5, 0, none⟩) f.lits.length c5, .slice none 0 0, .slice none 0 0] W6) := by unfold Hid; rw [← hW6]; exact HT5.out.set 1 _
  have HO6 : Hid (W6.ownsRow (w.heap.size + 1 + 1 + 1) 3 1 (.slice (some ⟨g5, 0, none⟩) f.lits.length c5) f.lits.length (intsC f.lits)) := by
    unfold Hid; rw [← hW6]
    exact own_lower (ownsRow_setCell_below HO5.out (a := ⟨w.heap.size + 1 + 1, 1, none⟩) (by show w.heap.size + 1 + 1 < _; omega) _) s4
  have HW6 := hidG hW6
  obtain ⟨-, -, d2, -⟩ := c4 HT6.out.x1
  clear hW6 hb5 hown5 b0 b1 q0 r0 d1
  go_wp2_with (rw [HW6.out])
  refine (toIntS_any _ f.chain W6 (H2.out.below HT6.out.bel) HS.out.2.1).mono ?_
  rintro e w7 ⟨g7, c7, rfl, hown7, hb7⟩
  have HO7 := hidG hown7
  have HP7 := hidG (row_below HO6.out hb7)
  have HT7 := hidG (HT6.out.call hb7)
  have s6 := HT6.out.sz
  obtain ⟨-, -, y2, -⟩ := c4 HT7.out.x3
  have y2f := HT7.out.x3.frozen 2
  obtain ⟨W8, hW8⟩ : ∃ W8, w7.setCell ⟨w.heap.size + 1 + 1, 2, none⟩ (.slice (some ⟨g7, 0, none⟩) f.chain.length c7) = W8 := ⟨_, rfl⟩
  have HT8 : Hid (TS w [.int .i64 f.kind, .slice a1 f.lits.length c1, .slice a2 f.chain.length c2, .slice a3 f.tree.length c3] [.int .i64 f.kind, .slice (some ⟨g5, 0, none⟩) f.lits.length c5, .slice (some ⟨g7, 0, none⟩) f.chain.length c7, .slice none 0 0] W8) := by unfold Hid; rw [← hW8]; exact HT7.out.set 2 _
  have HO8 : Hid (W8.ownsRow (w.heap.size + 1 + 1 + 1) 3 1 (.slice (some ⟨g7, 0, none⟩) f.chain.length c7) f.chain.length (intsC f.chain)) := by
    unfold Hid; rw [← hW8]
    exact own_lower (ownsRow_setCell_below HO7.out (a := ⟨w.heap.size + 1 + 1, 2, none⟩) (by show w.heap.size + 1 + 1 < _; omega) _) s6
  have HP8 : Hid (W8.ownsRow (w.heap.size + 1 + 1 + 1) 3 1 (.slice (some ⟨g5, 0, none⟩) f.lits.length c5) f.lits.length (intsC f.lits)) := by
    unfold Hid; rw [← hW8]
    exact ownsRow_setCell_below HP7.out (a := ⟨w.heap.size + 1 + 1, 2, none⟩) (by show w.heap.size + 1 + 1 < _; omega) _
  have HW8 := hidG hW8
  obtain ⟨-, -, -, d3⟩ := c4 HT8.out.x1
  clear hW8 hb7 hown7 d2 y1 y1f
  go_wp2_with (rw [HW8.out])
  refine (toTreeNodeS_st _ f.tree W8 (H3.out.below HT8.out.bel) HS.out.2.2).mono ?_
  rintro e w9 ⟨v9, rfl, ⟨p9, c9, rfl⟩, hst9, hb9⟩
  have HT9 := hidG (HT8.out.call hb9)
  have s8 := HT8.out.sz
  have HL9 : Hid (LemN w9 (w.heap.size + 1 + 1 + 1) (.slice (some ⟨g5, 0, none⟩) f.lits.length c5) (.slice (some ⟨g7, 0, none⟩) f.chain.length c7) (.slice p9 f.tree.length c9) f) := ⟨row_below HP8.out hb9, row_below HO8.out hb9, fun W h1 h2 => hst9 W h1 (fun k h3 h4 => h2 k (by omega) h4)⟩
  obtain ⟨-, -, -, y3⟩ := c4 HT9.out.x3
  have y3f := HT9.out.x3.frozen 3
  obtain ⟨W10, hW10⟩ : ∃ W10, w9.setCell ⟨w.heap.size + 1 + 1, 3, none⟩ (.slice p9 f.tree.length c9) = W10 := ⟨_, rfl⟩
  have HT10 : Hid (TS w [.int .i64 f.kind, .slice a1 f.lits.length c1, .slice a2 f.chain.length c2, .slice a3 f.tree.length c3] [.int .i64 f.kind, .slice (some ⟨g5, 0, none⟩) f.lits.length c5, .slice (some ⟨g7, 0, none⟩) f.chain.length c7, .slice p9 f.tree.length c9] W10) := by unfold Hid; rw [← hW10]; exact HT9.out.set 3 _
  have HL10 : Hid (LemN W10 (w.heap.size + 1 + 1 + 1) (.slice (some ⟨g5, 0, none⟩) f.lits.length c5) (.slice (some ⟨g7, 0, none⟩) f.chain.length c7) (.slice p9 f.tree.length c9) f) := by
    unfold Hid; rw [← hW10]
    exact HL9.out.keep (Nat.le_refl _) (by simp) (fun k hk _ => by rw [Below.heap_setCell _ ⟨w.heap.size + 1 + 1, 3, none⟩ _ _ (by show k ≠ w.heap.size + 1 + 1; omega)])
  have HW10 := hidG hW10
  obtain ⟨z0, z1, z2, z3⟩ := c4 HT10.out.x3
  obtain ⟨t0, t1, t2, t3⟩ := c4 HT10.out.x2
  have t4 := HT10.out.x2.frozen 0
  have t5 := HT10.out.x2.frozen 1
  have t6 := HT10.out.x2.frozen 2
  have t7 := HT10.out.x2.frozen 3
  clear hW10 hb9 hst9 d3 y2 y2f
  go_wp2_with (rw [HW10.out])
  have hE := (((HT10.out.x2.set 0 (.int .i64 f.kind)).set 1 (.slice (some ⟨g5, 0, none⟩) f.lits.length c5)).set 2 (.slice (some ⟨g7, 0, none⟩) f.chain.length c7)).set 3 (.slice p9 f.tree.length c9)
  obtain ⟨e0, e1, e2, e3⟩ := c4 hE
  have hL := HL10.out.keep (N' := w.heap.size) (by omega) (w' := ((((W10.setCell ⟨w.heap.size + 1, 0, none⟩ (.int .i64 f.kind)).setCell ⟨w.heap.size + 1, 1, none⟩ (.slice (some ⟨g5, 0, none⟩) f.lits.length c5)).setCell ⟨w.heap.size + 1, 2, none⟩ (.slice (some ⟨g7, 0, none⟩) f.chain.length c7)).setCell ⟨w.heap.size + 1, 3, none⟩ (.slice p9 f.tree.length c9))) (by simp) (fun k hk _ => by
    have hne : k ≠ w.heap.size + 1 := by omega
    rw [Below.heap_setCell _ ⟨w.heap.size + 1, 3, none⟩ _ _ hne, Below.heap_setCell _ ⟨w.heap.size + 1, 2, none⟩ _ _ hne, Below.heap_setCell _ ⟨w.heap.size + 1, 1, none⟩ _ _ hne, Below.heap_setCell _ ⟨w.heap.size + 1, 0, none⟩ _ _ hne])
  have hBE := (((HT10.out.bel.setCell (p := ⟨w.heap.size + 1, 0, none⟩) (by show _ ≤ w.heap.size + 1; omega) (.int .i64 f.kind)).setCell (p := ⟨w.heap.size + 1, 1, none⟩) (by show _ ≤ w.heap.size + 1; omega) (.slice (some ⟨g5, 0, none⟩) f.lits.length c5)).setCell (p := ⟨w.heap.size + 1, 2, none⟩) (by show _ ≤ w.heap.size + 1; omega) (.slice (some ⟨g7, 0, none⟩) f.chain.length c7)).setCell (p := ⟨w.heap.size + 1, 3, none⟩) (by show _ ≤ w.heap.size + 1; omega) (.slice p9 f.tree.length c9)
  refine bodyPost_ret (v := .agg #[.int .i64 f.kind, .slice (some ⟨g5, 0, none⟩) f.lits.length c5, .slice (some ⟨g7, 0, none⟩) f.chain.length c7, .slice p9 f.tree.length c9]) ?_ rfl ⟨_, _, _, rfl, ⟨⟨_, _, rfl⟩, ⟨_, _, rfl⟩, ⟨_, _, rfl⟩⟩, hL, hBE⟩
  clear hE hL hBE
  simp [results, Tryd.results12, go_sem, e0, e1, e2, e3]
end Go.Proofs.YtdphpfffofeklaaDoor.P
