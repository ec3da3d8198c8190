import Derived.Test.YtdphpfffofeklaaDoorPtI
namespace Go.Proofs.YtdphpfffofeklaaDoor.P
open Go.ChangeShapes Go.WideShapes Go.ChangeAt Go.RowKit
open L (strOf strOf_toList strOf_size Tn hidG below_alloc Bx bx_new StrsAt TreeAt strsC strs_at row_below own_lower own_other' own_base up_alloc)
theorem nodeText_any (f : Tn) (va : Value) (w : World) (h : StrsAt w va f.mu) (hf : TnB f) (ht : Tb w) :
    Calls Tryd.prog 44 #[.agg #[.int .i64 f.col, .string (strOf f.pl), va]] w fun e w' => ∃ s : List UInt8, e = .returned (.tuple #[.string (strOf s), .bool (tnOk f)]) ∧ (tnOk f = true → s = (tnP f).2) ∧ Below w.heap.size w w' := by
  by_cases hc : 0 ≤ f.col
  · exact nodeText_branch f va w h hf ht hc
  · exact nodeText_leaf f va w h hf hc
set_option maxRecDepth 100000 in
set_option maxHeartbeats 4000000 in
theorem nodeTexts_any (v : Value) (F : List Tn) (w : World) (h : TreeAt w v F) (hf : ∀ f ∈ F, TnB f) (hn : F.length ≤ 1048576) (ht : Tb w) :
    Calls Tryd.prog 30 #[v] w fun e w' => ∃ sv ok, e = .returned (.tuple #[sv, .bool ok]) ∧ (ok = F.all tnOk) ∧ (∃ p n c, sv = .slice p n c) ∧ StrsAt w' sv (if ok then F.map (fun f => (tnP f).2) else []) ∧ Below w.heap.size w w' := by
  have HR := hidG hf
  have HT := hidG ht
  obtain ⟨p, c, rfl, h1, h2, hA⟩ := h
  unfold maxLen at h2
  have HA := hidG hA
  obtain ⟨M, hM⟩ : ∃ M, F.map (fun f => (tnP f).2) = M := ⟨_, rfl⟩
  have hML : M.length = F.length := by rw [← hM, List.length_map]
  have HMA : Hid (∀ i (h : i < F.length) (h' : i < M.length), M[i] = (tnP F[i]).2) := by subst hM; intro i h h'; rw [List.getElem_map]
  rw [hM]
  clear hA hf ht hM
  go_enter Tryd.func30, Tryd.ntmps30
  go_wp2_with fail
  go_loopw [2, 10] (fun vt iv wr => ∃ i : Nat, i ≤ F.length ∧ iv = .int .i64 (i : Nat) ∧ (∀ j (h : j < F.length), j < i → tnOk F[j] = true) ∧ wr.ownsRow w.heap.size 9 1 vt i (strsC (M.take i)) ∧ Below w.heap.size w wr) (fun _ iv _ => F.length - (intOf iv).toNat)
  case atStart => exact ⟨0, Nat.zero_le _, rfl, fun j _ h => absurd h (Nat.not_lt_zero _), World.ownsRow_nil _ _ _ _, Below.refl _ _⟩
  case round =>
    obtain ⟨i, hi, rfl, hp, hown, hB⟩ := hrel
    obtain ⟨pt, ct, rfl⟩ := own_sl hown
    have HO := hidG hown
    have HB := hidG hB
    have HP := hidG hp
    clear hp
    by_cases hlt : i < F.length
    · obtain ⟨b, off, rfl, hb, hcc⟩ : ∃ b off, p = some ⟨b, off, none⟩ ∧ b < w.heap.size ∧ ∀ i (h : i < F.length), w.cell? ⟨b, off + i * 3, none⟩ = some (.int .i64 F[i].col) ∧ w.cell? ⟨b, off + i * 3 + 1, none⟩ = some (.string (strOf F[i].pl)) ∧ (∃ va, w.cell? ⟨b, off + i * 3 + 2, none⟩ = some va ∧ StrsAt w va F[i].mu) := by
        rcases HA.out with h | h
        · rw [h] at hlt; exact absurd hlt (Nat.not_lt_zero _)
        · exact h
      obtain ⟨k0, k1, va, k2, hva⟩ := hcc i hlt
      rw [← hB.cell (p := ⟨b, off + i * 3, none⟩) hb] at k0
      rw [← hB.cell (p := ⟨b, off + i * 3 + 1, none⟩) hb] at k1
      rw [← hB.cell (p := ⟨b, off + i * 3 + 2, none⟩) hb] at k2
      have hx0 := HR.out _ (List.getElem_mem hlt)
      have HSN : Hid (strsC (M.take (i + 1)) = strsC (M.take i) ++ [.string (strOf (tnP F[i]).2)]) := by unfold Hid; rw [snoc_strs (by omega), HMA.out i hlt (by omega)]
      obtain ⟨f, hx⟩ : ∃ f, F[i] = f := ⟨_, rfl⟩
      rw [hx] at k0 k1 hva hx0 HSN
      have HX := hidG hx
      have HX0 := hidG hx0
      have HVA := hidG (hva.below hB)
      obtain ⟨pa, ca, rfl, -, -, -⟩ := hva
      obtain ⟨W1, hW1⟩ : ∃ W1, wr.alloc (.cells #[.int .i64 f.col, .string (strOf f.pl), .slice pa f.mu.length ca] 65) = W1 := ⟨_, rfl⟩
      have HB1 : Hid (Below w.heap.size w W1) := by unfold Hid; rw [← hW1]; exact up_alloc HB.out _
      have HV1 : Hid (StrsAt W1 (.slice pa f.mu.length ca) f.mu) := by unfold Hid; rw [← hW1]; exact HVA.out.below (below_alloc _ _)
      have HO1 : Hid (W1.ownsRow w.heap.size 9 1 (.slice pt i ct) i (strsC (M.take i))) := by unfold Hid; rw [← hW1]; exact row_below HO.out (below_alloc _ _)
      have HX1 : Hid (Bx W1 wr.heap.size [.int .i64 f.col, .string (strOf f.pl), .slice pa f.mu.length ca]) := by unfold Hid; rw [← hW1]; exact bx_new wr _ _
      have HW1 := hidG hW1
      obtain ⟨d0, d1, d2⟩ := HX1.out.c3
      clear hcc hx hown hB hx0 hW1
      cases hok : tnOk f with
      | false =>
        have HF : Hid (false = F.all tnOk) := by
          unfold Hid
          symm
          rw [Bool.eq_false_iff]
          intro h
          have := List.all_eq_true.1 h _ (List.getElem_mem hlt)
          rw [HX.out, hok] at this
          cases this
        have HK := hidG hok
        clear hok
        go_wp2_with (first
          | rw [HW1.out]
          | (go_at_call 44; refine (nodeText_any f _ W1 HV1.out HX0.out (HT.out.below HB1.out)).mono ?_; rintro e w2 ⟨s, rfl, -, hb2⟩; rw [HK.out]; have HB2 : Hid (Below w.heap.size w w2) := HB1.out.trans (hb2.mono HB1.out.size); clear hb2))
        refine bodyPost_ret (v := .tuple #[.slice none 0 0, .bool false]) ?_ rfl ⟨_, false, rfl, HF.out, ⟨_, _, _, rfl⟩, ⟨none, 0, rfl, Nat.le_refl _, by unfold maxLen; omega, .inl rfl⟩, HB2.out⟩
        simp [results, Tryd.results30, go_sem]
      | true =>
        have HK := hidG hok
        clear hok
        obtain ⟨sx, hsx⟩ : ∃ s, (tnP f).2 = s := ⟨_, rfl⟩
        rw [hsx] at HSN
        have HSX := hidG hsx
        clear hsx
        go_wp2_with (first
          | rw [HW1.out]
          | (go_at_call 44; refine (nodeText_any f _ W1 HV1.out HX0.out (HT.out.below HB1.out)).mono ?_; rintro e w2 ⟨s, rfl, hs, hb2⟩; rw [HK.out, hs HK.out, HSX.out]; have HB2 : Hid (Below w.heap.size w w2) := HB1.out.trans (hb2.mono HB1.out.size); have HO2 := hidG (row_below HO1.out hb2); clear hb2 hs)
          | (at_builtin; refine wpList_appS (t := strOf sx) (n := i) (base := w.heap.size) (xs := strsC (M.take i)) rfl _ _ rfl rfl ?own _ rfl ?hH ?hn ?hb ?_))
        case own => exact HO2.out
        case hH => rfl
        case hn => omega
        case hb => exact HB2.out.size
        intro g5 c5 w5 hown5 hgr5
        have HB5 : Hid (Below w.heap.size w w5) := below_grown HB2.out HO2.out hgr5 HB2.out.size
        have HO5 := hidG hown5
        rw [← HSN.out] at HO5
        clear hown5 hgr5
        go_wp2_with fail
        go_roundw
        case rel => exact ⟨i + 1, by omega, by go_num, fun j hj hji => by
          by_cases e : j = i
          · subst e; rw [HX.out]; exact HK.out
          · exact HP.out j hj (by omega), HO5.out, HB5.out⟩
        case measure => simp [intOf]; omega
    · have hie : i = F.length := by omega
      subst hie
      clear hown hB
      have HF : Hid (true = F.all tnOk) := by
        unfold Hid
        symm
        rw [List.all_eq_true]
        intro x hx
        obtain ⟨j, hj, rfl⟩ := List.getElem_of_mem hx
        exact HP.out j hj hj
      go_wp2_with fail
      have ho := HO.out
      rw [List.take_of_length_le (by omega)] at ho
      refine bodyPost_ret (v := .tuple #[.slice pt F.length ct, .bool true]) ?_ rfl ⟨_, true, rfl, HF.out, ⟨_, _, _, rfl⟩, strs_at (by simp only [if_true]; rw [hML]; exact ho), HB.out⟩
      simp [results, Tryd.results30, go_sem]
end Go.Proofs.YtdphpfffofeklaaDoor.P
