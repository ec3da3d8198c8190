import Derived.Test.YtdphpfffofeklaaDoorPtJ
namespace Go.Proofs.YtdphpfffofeklaaDoor.P
open Go.ChangeShapes Go.WideShapes Go.ChangeAt Go.RowKit
open L (strOf strOf_toList strOf_size Tn hidG below_alloc Bx bx_new StrsAt TreeAt strsC strs_at row_below own_lower own_other' own_base up_alloc)
set_option maxHeartbeats 400000 in
theorem kindName_any (k : Int) (w : World) :
    Calls Tryd.prog 27 #[.int .i64 k] w fun e w' => e = .returned (.string (strOf (kn k))) ∧ w' = w := by
  by_cases h1 : k = 1
  · subst h1
    go_enter Tryd.func27, Tryd.ntmps27
    go_wp2
    go_ret
    exact ⟨rfl, rfl⟩
  by_cases h2 : k = 2
  · subst h2
    go_enter Tryd.func27, Tryd.ntmps27
    go_wp2
    go_ret
    exact ⟨rfl, rfl⟩
  by_cases h3 : k = 3
  · subst h3
    go_enter Tryd.func27, Tryd.ntmps27
    go_wp2
    go_ret
    exact ⟨rfl, rfl⟩
  have y1 : (k == 1) = false := by rw [beq_eq_false_iff_ne]; exact h1
  have y2 : (k == 2) = false := by rw [beq_eq_false_iff_ne]; exact h2
  have y3 : (k == 3) = false := by rw [beq_eq_false_iff_ne]; exact h3
  have e : Hid (kn k = []) := by unfold Hid kn; rw [if_neg h1, if_neg h2, if_neg h3]
  clear h1 h2 h3
  go_enter Tryd.func27, Tryd.ntmps27
  go_wp2
  go_ret
  rw [e.out]
  exact ⟨rfl, rfl⟩
theorem lemP_text (f : Lm) : lsT [kn f.kind, lsT (f.lits.map (fun n => sgnT (Lib.itoa n))), lsT (if true = true then f.chain.map (fun n => sgnT (Lib.itoa n)) else []), lsT (if true = true then f.tree.map (fun t => (tnP t).2) else [])] ++ [10] = (lemP f).2 ++ [10] := by
  simp only [if_true]
  unfold lemP lsP lsT nmP
  simp only [List.map_cons, List.map_nil, List.map_map]
  rfl
def LmB (l : Lm) : Prop := r64 l.kind ∧ (∀ x ∈ l.lits, r64 x) ∧ (∀ x ∈ l.chain, r64 x) ∧ (∀ f ∈ l.tree, r64 f.col) ∧ wtL l ≤ 1048576
set_option maxRecDepth 100000 in
set_option maxHeartbeats 8000000 in
theorem lemmaText_any (f : Lm) (va vb vc : Value) (w : World) (h1 : IntsAt w va f.lits) (h2 : IntsAt w vb f.chain) (h3 : TreeAt w vc f.tree) (hf : LmB f) (ht : Tb w) :
    Calls Tryd.prog 13 #[.agg #[.int .i64 f.kind, va, vb, vc]] w fun e w' => ∃ s : List UInt8, e = .returned (.tuple #[.string (strOf s), .bool (lemOk f)]) ∧ (lemOk f = true → s = (lemP f).2 ++ [10]) ∧ s.length ≤ 1000000000 ∧ Below w.heap.size w w' := by
  have H1 := hidG h1
  have H2 := hidG h2
  have H3 := hidG h3
  have HF := hidG hf
  have HT := hidG ht
  obtain ⟨p1, c1, rfl, -, -, -⟩ := h1
  obtain ⟨p2, c2, rfl, -, -, -⟩ := h2
  obtain ⟨p3, c3, rfl, -, -, -⟩ := h3
  obtain ⟨W1, hW1⟩ : ∃ W1, w.alloc (.cells #[.int .i64 f.kind, .slice p1 f.lits.length c1, .slice p2 f.chain.length c2, .slice p3 f.tree.length c3] 40) = W1 := ⟨_, rfl⟩
  have HB1 : Hid (Below w.heap.size w W1) := by unfold Hid; rw [← hW1]; exact below_alloc _ _
  have HX1 : Hid (Bx W1 w.heap.size [.int .i64 f.kind, .slice p1 f.lits.length c1, .slice p2 f.chain.length c2, .slice p3 f.tree.length c3]) := by unfold Hid; rw [← hW1]; exact bx_new w _ _
  have HCL : Hid (∀ W, Below W1.heap.size W1 W → W.cell? ⟨w.heap.size, 0, none⟩ = some (.int .i64 f.kind) ∧ W.cell? ⟨w.heap.size, 1, none⟩ = some (.slice p1 f.lits.length c1) ∧ W.cell? ⟨w.heap.size, 2, none⟩ = some (.slice p2 f.chain.length c2) ∧ W.cell? ⟨w.heap.size, 3, none⟩ = some (.slice p3 f.tree.length c3)) := fun W h => c4 (HX1.out.below HX1.out.lt h)
  have HW1 := hidG hW1
  obtain ⟨b0, b1, -, -⟩ := c4 HX1.out
  have hlits : f.lits.length ≤ 1048576 ∧ f.chain.length ≤ 1048576 ∧ f.tree.length ≤ 1048576 := by have := hf.2.2.2.2; unfold wtL wtTs at this; omega
  obtain ⟨n1, n2, n3⟩ := hlits
  have HTN : Hid (∀ t ∈ f.tree, TnB t) := fun t ht => ⟨hf.2.2.2.1 t ht, by
    have h1 := hf.2.2.2.2
    have h2 : wtT t ≤ (f.tree.map wtT).sum := le_sum (List.mem_map.2 ⟨t, ht, rfl⟩)
    unfold wtL wtTs at h1
    omega⟩
  obtain ⟨o3, ho3⟩ : ∃ o, (!f.lits.contains 0) = o := ⟨_, rfl⟩
  have HO3 := hidG ho3
  clear hW1 hf ht ho3
  go_enter Tryd.func13, Tryd.ntmps13
  go_wp2_with (first
    | rw [HW1.out]
    | (go_at_call 27; refine (kindName_any f.kind _).mono ?_; rintro e w2 ⟨rfl, rfl⟩)
    | (go_at_call 28; refine (litTexts_any _ f.lits _ (H1.out.below HB1.out) HF.out.2.1 n1 (HT.out.below HB1.out)).mono ?_; rintro e w3 ⟨v3, rfl, ⟨q3, d3, rfl⟩, hs3, hb3⟩; rw [HO3.out]; have HB3 : Hid (Below w2.heap.size w2 w3) := hb3; have HS3 := hidG hs3; clear hb3 hs3; obtain ⟨-, -, b2, -⟩ := HCL.out _ HB3.out; clear b0 b1)
    | (go_at_call 29; refine (numberTexts_any _ f.chain _ (H2.out.below (HB1.out.trans (HB3.out.mono HB1.out.size))) HF.out.2.2.1 n2 (HT.out.below (HB1.out.trans (HB3.out.mono HB1.out.size)))).mono ?_; rintro e w4 ⟨v4, o4, rfl, ho4, ⟨q4, m4, d4, rfl⟩, hs4, hb4⟩; have HB4 : Hid (Below w2.heap.size w2 w4) := HB3.out.trans (hb4.mono HB3.out.size); have HS34 := hidG (HS3.out.below hb4); have HS4 := hidG hs4; have HO4 := hidG ho4; clear hb4 hs4 ho4 b2; obtain ⟨-, -, -, b3⟩ := HCL.out _ HB4.out)
    | (go_at_call 30; refine (nodeTexts_any _ f.tree _ (H3.out.below (HB1.out.trans (HB4.out.mono HB1.out.size))) HTN.out n3 (HT.out.below (HB1.out.trans (HB4.out.mono HB1.out.size)))).mono ?_; rintro e w5 ⟨v5, o5, rfl, ho5, ⟨q5, m5, d5, rfl⟩, hs5, hb5⟩; have HB5 : Hid (Below w2.heap.size w2 w5) := HB4.out.trans (hb5.mono HB4.out.size); have HS35 := hidG (HS34.out.below hb5); have HS45 := hidG (HS4.out.below hb5); have HS5 := hidG hs5; have HO5 := hidG ho5; clear hb5 hs5 ho5 b3))
  have HJ3 : Hid ((Lib.join (f.lits.map (fun n => sgnT (Lib.itoa n))) [32]).length ≤ 100000000) := by
    have := lits_join HF.out.2.1
    unfold Hid
    omega
  have HJ4 : Hid ((Lib.join (if o4 then f.chain.map (fun n => sgnT (Lib.itoa n)) else []) [32]).length ≤ 100000000 ∧ (if o4 then f.chain.map (fun n => sgnT (Lib.itoa n)) else []).length ≤ 1048576) := by
    have := lits_join HF.out.2.2.1
    unfold Hid
    cases o4
    · exact ⟨Nat.zero_le _, Nat.zero_le _⟩
    · exact ⟨by simp only [if_true]; omega, by simp only [if_true, List.length_map]; omega⟩
  have HJ5 : Hid ((Lib.join (if o5 then f.tree.map (fun t => (tnP t).2) else []) [32]).length ≤ 200000000 ∧ (if o5 then f.tree.map (fun t => (tnP t).2) else []).length ≤ 1048576) := by
    have h0 := HF.out.2.2.2.2
    unfold wtL wtTs at h0
    have h1 := join_le (f.tree.map (fun t => (tnP t).2))
    have h2 := sgn_map_sum (fun t => (tnP t).2) (fun t => 6 * wtT t + 64) f.tree (fun t ht => tnP_len (HTN.out t ht))
    rw [sum_lin] at h2
    rw [List.length_map] at h1
    unfold Hid
    cases o5
    · exact ⟨Nat.zero_le _, Nat.zero_le _⟩
    · exact ⟨by simp only [if_true]; omega, by simp only [if_true, List.length_map]; omega⟩
  obtain ⟨L4, hL4⟩ : ∃ L, (if o4 then f.chain.map (fun n => sgnT (Lib.itoa n)) else []) = L := ⟨_, rfl⟩
  obtain ⟨L5, hL5⟩ : ∃ L, (if o5 then f.tree.map (fun t => (tnP t).2) else []) = L := ⟨_, rfl⟩
  obtain ⟨L3, hL3⟩ : ∃ L, f.lits.map (fun n => sgnT (Lib.itoa n)) = L := ⟨_, rfl⟩
  have HN3 : Hid (L3.length ≤ 1048576) := by unfold Hid; rw [← hL3, List.length_map]; exact n1
  rw [hL3] at HS35 HJ3
  rw [hL4] at HS45 HJ4
  rw [hL5] at HS5 HJ5
  have HL3 := hidG hL3
  have HL4 := hidG hL4
  have HL5 := hidG hL5
  clear hL3 hL4 hL5 HS3 HS34 HS4
  refine (listText_any _ L3 w5 HS35.out (by have := HJ3.out; omega) (by have := HN3.out; omega)).mono ?_
  rintro e w6 ⟨rfl, hb6⟩
  have HB6 : Hid (Below w2.heap.size w2 w6) := HB5.out.trans (hb6.mono HB5.out.size)
  have HS46 := hidG (HS45.out.below hb6)
  have HS56 := hidG (HS5.out.below hb6)
  clear hb6 HS45 HS5 HS35
  go_wp2_with fail
  refine (listText_any _ L4 w6 HS46.out (by have := HJ4.out.1; omega) (by have := HJ4.out.2; omega)).mono ?_
  rintro e w7 ⟨rfl, hb7⟩
  have HB7 : Hid (Below w2.heap.size w2 w7) := HB6.out.trans (hb7.mono HB6.out.size)
  have HS57 := hidG (HS56.out.below hb7)
  clear hb7 HS46 HS56
  go_wp2_with fail
  refine (listText_any _ L5 w7 HS57.out (by have := HJ5.out.1; omega) (by have := HJ5.out.2; omega)).mono ?_
  rintro e w8 ⟨rfl, hb8⟩
  have HB8 : Hid (Below w2.heap.size w2 w8) := HB7.out.trans (hb8.mono HB7.out.size)
  clear hb8 HS57
  go_wp2_with fail
  obtain ⟨R, hR⟩ : ∃ R, lsT [kn f.kind, lsT L3, lsT L4, lsT L5] = R := ⟨_, rfl⟩
  have HJ9 : Hid ((Lib.join [kn f.kind, lsT L3, lsT L4, lsT L5] [32]).length ≤ 500000000 ∧ R.length ≤ 500000010) := by
    have a1 := join_le [kn f.kind, lsT L3, lsT L4, lsT L5]
    have a2 : (kn f.kind).length ≤ 6 := by unfold kn; split; · decide
                                           split; · decide
                                           split <;> decide
    have a3 : (lsT L3).length = (Lib.join L3 [32]).length + 2 := by unfold lsT; simp
    have a4 : (lsT L4).length = (Lib.join L4 [32]).length + 2 := by unfold lsT; simp
    have a5 : (lsT L5).length = (Lib.join L5 [32]).length + 2 := by unfold lsT; simp
    have a6 : R.length = (Lib.join [kn f.kind, lsT L3, lsT L4, lsT L5] [32]).length + 2 := by rw [← hR]; unfold lsT; simp
    have := HJ3.out
    have := HJ4.out.1
    have := HJ5.out.1
    simp only [List.map_cons, List.map_nil, List.sum_cons, List.sum_nil, List.length_cons, List.length_nil] at a1
    unfold Hid
    omega
  refine (listText_any _ [kn f.kind, lsT L3, lsT L4, lsT L5] _ (strs_new _ _ _ rfl _ rfl (by simp)) (by have := HJ9.out.1; omega) (by simp)).mono ?_
  rintro e w9 ⟨rfl, hb9⟩
  have HB9 : Hid (Below w2.heap.size w2 w9) := (up_alloc HB8.out _).trans (hb9.mono (up_alloc HB8.out _).size)
  rw [hR]
  have hRz : (strOf R).size ≤ 500000010 := by rw [strOf_size]; exact HJ9.out.2
  have HR := hidG hR
  have HRN : Hid (strOf R ++ (⟨#[10]⟩ : ByteArray) = strOf (R ++ [(10 : UInt8)])) := by
    unfold Hid
    apply ByteArray.ext
    simp [L.strOf]
  clear hb9 hR
  have HKE : Hid ((strOf (kn f.kind)).toList.isEmpty = !kdOk f.kind) := by
    unfold Hid
    rw [ByteArray.toList_eq, strOf_toList]
    unfold kn kdOk
    by_cases e1 : f.kind = 1
    · rw [if_pos e1, decide_eq_true e1]; rfl
    by_cases e2 : f.kind = 2
    · rw [if_neg e1, if_pos e2, decide_eq_true e2, decide_eq_false e1]; rfl
    by_cases e3 : f.kind = 3
    · rw [if_neg e1, if_neg e2, if_pos e3, decide_eq_true e3, decide_eq_false e1, decide_eq_false e2]; rfl
    · rw [if_neg e1, if_neg e2, if_neg e3, decide_eq_false e1, decide_eq_false e2, decide_eq_false e3]; rfl
  obtain ⟨kd, hkd⟩ : ∃ b, kdOk f.kind = b := ⟨_, rfl⟩
  have HLE : Hid (lemOk f = (kd && o3 && o4 && o5)) := by unfold Hid lemOk; rw [hkd, HO3.out, HO4.out, HO5.out]
  rw [hkd] at HKE
  clear hkd
  have ye := HKE.out
  cases kd <;> cases o3 <;> cases o4 <;> cases o5
  all_goals (simp only [Bool.not_true, Bool.not_false] at ye; go_wp2_with fail)
  all_goals first
    | (refine bodyPost_ret (v := .tuple #[.string (strOf R ++ (⟨#[10]⟩ : ByteArray)), .bool false]) ?_ rfl ⟨R ++ [10], (by rw [HRN.out, HLE.out]; rfl), (fun e => (by rw [HLE.out] at e; cases e)), (by rw [List.length_append]; have := HJ9.out.2; simp only [List.length_cons, List.length_nil]; omega), HB1.out.trans (HB9.out.mono HB1.out.size)⟩
       simp [results, Tryd.results13, go_sem]; done)
    | (refine bodyPost_ret (v := .tuple #[.string (strOf R ++ (⟨#[10]⟩ : ByteArray)), .bool true]) ?_ rfl ⟨R ++ [10], (by rw [HRN.out, HLE.out]; rfl), (fun _ => (by rw [← HR.out, ← HL3.out, ← HL4.out, ← HL5.out]; exact lemP_text f)), (by rw [List.length_append]; have := HJ9.out.2; simp only [List.length_cons, List.length_nil]; omega), HB1.out.trans (HB9.out.mono HB1.out.size)⟩
       simp [results, Tryd.results13, go_sem]; done)
end Go.Proofs.YtdphpfffofeklaaDoor.P
