import Derived.Test.YtdphpfffofeklaaDoorPtK
namespace Go.Proofs.YtdphpfffofeklaaDoor.P
open Go.ChangeShapes Go.WideShapes Go.ChangeAt Go.RowKit
open L (strOf strOf_toList strOf_size Tn hidG below_alloc Bx bx_new StrsAt TreeAt strsC strs_at row_below own_lower own_other' own_base up_alloc)
theorem lines_snoc {F : List Lm} {i : Nat} (h : i < F.length) : linesT (F.take (i + 1)) = linesT (F.take i) ++ ((lemP F[i]).2 ++ [10]) := by
  unfold linesT
  rw [List.take_succ_eq_append_getElem h, List.flatMap_append]
  simp
theorem lines_le (F : List Lm) (i : Nat) : (linesT (F.take i)).length ≤ (linesT F).length := by
  conv => rhs; rw [← List.take_append_drop i F]
  unfold linesT
  rw [List.flatMap_append, List.length_append]
  omega
theorem proof_bad {F : List Lm} {j : Nat} (hj : j < F.length) (h : lemOk F[j] = false) : proofT F = [] := by
  unfold proofT
  have : F.all lemOk = false := by
    rw [Bool.eq_false_iff]
    intro e
    have := List.all_eq_true.1 e _ (List.getElem_mem hj)
    rw [h] at this
    cases this
  rw [this]
  rfl
theorem proof_long {F : List Lm} {j : Nat} (h : 20000 < (linesT (F.take j)).length) : proofT F = [] := by
  unfold proofT
  have := lines_le F j
  rw [decide_eq_false (by omega), Bool.and_false]
  rfl
theorem proof_good {F : List Lm} (h : ∀ j (hj : j < F.length), lemOk F[j] = true) (hl : (linesT F).length ≤ 20000) : proofT F = linesT F := by
  unfold proofT
  have : F.all lemOk = true := by
    rw [List.all_eq_true]
    intro x hx
    obtain ⟨j, hj, rfl⟩ := List.getElem_of_mem hx
    exact h j hj
  rw [this, decide_eq_true hl]
  rfl
set_option maxRecDepth 100000 in
set_option maxHeartbeats 8000000 in
theorem proofText_impl (v : Value) (F : List Lm) (w : World) (h : LemsAt w v F) (hf : ∀ f ∈ F, LmB f) (_hn : F.length ≤ 1048576) (ht : Tb w) :
    Calls Tryd.prog 7 #[v] w fun e w' => e = .returned (.string (strOf (proofT F))) ∧ Below w.heap.size w w' := by
  have HR := hidG hf
  have HT := hidG ht
  obtain ⟨p, c, rfl, h1, h2, hA⟩ := h
  unfold maxLen at h2
  have HA := hidG hA
  obtain ⟨R, hRR⟩ : ∃ R, proofT F = R := ⟨_, rfl⟩
  have HRR := hidG hRR
  rw [hRR]
  clear hA hf ht hRR
  go_enter Tryd.func7, Tryd.ntmps7
  go_wp2_with fail
  go_loopw [10] (fun iv wr => ∃ i : Nat, i ≤ F.length ∧ iv = .int .i64 (i : Nat) ∧ (∀ j (h : j < F.length), j < i → lemOk F[j] = true) ∧ (linesT (F.take i)).length ≤ 20000 ∧ Bd w.heap.size w.heap.size (linesT (F.take i)) wr ∧ Below w.heap.size w wr) (fun iv _ => F.length - (intOf iv).toNat)
  case atStart => exact ⟨0, Nat.zero_le _, rfl, fun j _ h => absurd h (Nat.not_lt_zero _), Nat.zero_le _, bd_new w, below_alloc _ _⟩
  case round =>
    obtain ⟨i, hi, rfl, hp, hl, hbd, hB⟩ := hrel
    have HB := hidG hB
    have HP := hidG hp
    have HD := hidG hbd
    clear hp hbd
    by_cases hlt : i < F.length
    · obtain ⟨b, rfl, hb, hcc⟩ : ∃ b, p = some ⟨b, 0, none⟩ ∧ b < w.heap.size ∧ ∀ i (h : i < F.length), LemR w b (i * 4) F[i] := by
        rcases HA.out with h | h
        · rw [h] at hlt; exact absurd hlt (Nat.not_lt_zero _)
        · exact h
      obtain ⟨k0, va, vb, vc, k1, k2, k3, hva, hvb, hvc⟩ := (hcc i hlt).below hb hB
      have hx0 := HR.out _ (List.getElem_mem hlt)
      have HSN := hidG (lines_snoc hlt)
      obtain ⟨f, hx⟩ : ∃ f, F[i] = f := ⟨_, rfl⟩
      rw [hx] at k0 hva hvb hvc hx0 HSN
      have HX := hidG hx
      have HX0 := hidG hx0
      have HVA := hidG hva
      have HVB := hidG hvb
      have HVC := hidG hvc
      obtain ⟨pa, ca, rfl, -, -, -⟩ := hva
      obtain ⟨pb, cb, rfl, -, -, -⟩ := hvb
      obtain ⟨pc, cc, rfl, -, -, -⟩ := hvc
      obtain ⟨W1, hW1⟩ : ∃ W1, wr.alloc (.cells #[.int .i64 f.kind, .slice pa f.lits.length ca, .slice pb f.chain.length cb, .slice pc f.tree.length cc] 40) = W1 := ⟨_, rfl⟩
      have HA1 : Hid (Below wr.heap.size wr W1) := by unfold Hid; rw [← hW1]; exact below_alloc _ _
      have HB1 : Hid (Below w.heap.size w W1) := HB.out.trans (HA1.out.mono HB.out.size)
      have HX1 : Hid (Bx W1 wr.heap.size [.int .i64 f.kind, .slice pa f.lits.length ca, .slice pb f.chain.length cb, .slice pc f.tree.length cc]) := by unfold Hid; rw [← hW1]; exact bx_new wr _ _
      have HD1 := hidG (HD.out.below HA1.out)
      have HW1 := hidG hW1
      obtain ⟨d0, d1, d2, d3⟩ := c4 HX1.out
      obtain ⟨acc, hacc⟩ : ∃ a, linesT (F.take i) = a := ⟨_, rfl⟩
      rw [hacc] at HD1 HSN hl
      have HAC := hidG hacc
      clear hcc hx hB hx0 hW1 hacc HD
      have HC : Hid (Calls Tryd.prog 13 #[.agg #[.int .i64 f.kind, .slice pa f.lits.length ca, .slice pb f.chain.length cb, .slice pc f.tree.length cc]] W1 fun e w' => ∃ s : List UInt8, e = .returned (.tuple #[.string (strOf s), .bool (lemOk f)]) ∧ (lemOk f = true → s = (lemP f).2 ++ [10]) ∧ s.length ≤ 1000000000 ∧ Below W1.heap.size W1 w') := lemmaText_any f _ _ _ W1 (HVA.out.below HA1.out) (HVB.out.below HA1.out) (HVC.out.below HA1.out) HX0.out (HT.out.below HB1.out)
      cases hok : lemOk f with
      | false =>
        have HF : Hid (R = []) := by unfold Hid; rw [← HRR.out]; exact proof_bad hlt (by rw [HX.out]; exact hok)
        rw [hok] at HC
        clear hok
        go_wp2_with (first
          | rw [HW1.out]
          | (go_at_call 13; refine HC.out.mono ?_; rintro e w2 ⟨s, rfl, -, -, hb2⟩; have HB2 : Hid (Below w.heap.size w w2) := HB1.out.trans (hb2.mono HB1.out.size); clear hb2))
        go_ret
        rw [HF.out]
        exact ⟨rfl, HB2.out⟩
      | true =>
        rw [hok] at HC
        have HK := hidG hok
        clear hok
        obtain ⟨ln, hln⟩ : ∃ s, (lemP f).2 ++ [10] = s := ⟨_, rfl⟩
        rw [hln] at HSN HC
        clear hln
        by_cases hlong : 20000 < acc.length + ln.length
        · have HF : Hid (R = []) := by
            unfold Hid
            rw [← HRR.out]
            refine proof_long (j := i + 1) ?_
            rw [HSN.out, List.length_append]
            exact hlong
          go_wp2_with (first
            | rw [HW1.out]
            | (go_at_call 13; refine HC.out.mono ?_; rintro e w2 ⟨s, rfl, hs, hsl, hb2⟩; obtain rfl := hs rfl; have HB2 : Hid (Below w.heap.size w w2) := HB1.out.trans (hb2.mono HB1.out.size); have HD2 := hidG (HD1.out.below hb2); have hz : (strOf s).size = s.length := strOf_size s; obtain ⟨u, hu⟩ : ∃ u, strOf s = u := ⟨_, rfl⟩; rw [hu] at hz ⊢; have yy : decide (20000 < (acc.length : Int) + (u.size : Int)) = true := decide_eq_true (by omega); clear hb2 hu)
            | (go_at_call 14; refine (bd_len _ _ acc _ HD2.out).mono ?_; rintro e w3 ⟨rfl, rfl⟩))
          go_ret
          rw [HF.out]
          exact ⟨rfl, HB2.out⟩
        · go_wp2_with (first
            | rw [HW1.out]
            | (go_at_call 13; refine HC.out.mono ?_; rintro e w2 ⟨s, rfl, hs, hsl, hb2⟩; obtain rfl := hs rfl; have HB2 : Hid (Below w.heap.size w w2) := HB1.out.trans (hb2.mono HB1.out.size); have HD2 := hidG (HD1.out.below hb2); have hz : (strOf s).size = s.length := strOf_size s; obtain ⟨u, hu⟩ : ∃ u, strOf s = u := ⟨_, rfl⟩; rw [hu] at hz ⊢; have HU := hidG hu; have yy : decide (20000 < (acc.length : Int) + (u.size : Int)) = false := decide_eq_false (by omega); clear hb2 hu)
            | (go_at_call 14; refine (bd_len _ _ acc _ HD2.out).mono ?_; rintro e w3 ⟨rfl, rfl⟩)
            | (go_at_call 15; rw [← HU.out]; refine (bd_write _ _ acc s _ HD2.out (by omega) HB2.out.size).mono ?_; rintro e w4 ⟨rfl, hd4, hb4⟩; have HD4 := hidG hd4; have HB4 : Hid (Below w.heap.size w w4) := HB2.out.trans hb4; clear hd4 hb4))
          go_roundw
          case rel =>
            refine ⟨i + 1, by omega, by go_num, fun j hj hji => ?_, ?_, ?_, HB4.out⟩
            · by_cases e : j = i
              · subst e; rw [HX.out]; exact HK.out
              · exact HP.out j hj (by omega)
            · rw [HSN.out, List.length_append]; omega
            · rw [HSN.out]; exact HD4.out
          case measure => simp [intOf]; omega
    · have hie : i = F.length := by omega
      subst hie
      rw [List.take_of_length_le (Nat.le_refl _)] at HD hl
      have HF : Hid (R = linesT F) := by
        unfold Hid
        rw [← HRR.out]
        exact proof_good (fun j hj => HP.out j hj hj) hl
      clear hB
      go_wp2_with (go_at_call 16; refine (bd_string _ _ (linesT F) _ HD.out HB.out.size).mono ?_; rintro e w4 ⟨rfl, hb4⟩; have HB4 : Hid (Below w.heap.size w w4) := HB.out.trans hb4; clear hb4)
      go_ret
      rw [HF.out]
      exact ⟨rfl, HB4.out⟩
end Go.Proofs.YtdphpfffofeklaaDoor.P
