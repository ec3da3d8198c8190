import Derived.Test.YtpjnglcojamfmaaDoorM1
import Derived.Maps.AppendAt
namespace Go.Proofs.YtpjnglcojamfmaaDoor
open Go.ChangeShapes Go.WideShapes Go.ChangeAt Go.RowKit
theorem Tryd.info_u32 : (Tryd.prog.info? 51).map (fun i => (i.zero, i.size, i.bytes)) = some (some (.int .u32 0), 1, 4) := by kernel_rfl
set_option maxHeartbeats 400000 in
theorem readInteger_no (s : ByteArray) (w : World) (hs : s.size ≤ maxLen) (hi : isIntB s = false) :
    Calls Tryd.prog 26 #[.string s] w fun e w' => e = .returned (.tuple #[.agg #[.bool false, .slice none 0 0], .bool false]) ∧ Below w.heap.size w w' := by
  have HI : Hid (isIntB s = false) := hi
  clear hi
  go_enter Tryd.func26, Tryd.ntmps26
  go_wp2_with (go_at_call 42; refine (isInt_impl _ _ hs).mono ?_; rintro e w' ⟨rfl, rfl⟩; rw [HI.out])
  refine bodyPost_ret (v := .tuple #[.agg #[.bool false, .slice none 0 0], .bool false]) ?_ rfl ⟨rfl, below_alloc _ _⟩
  simp [results, Tryd.results26, go_sem]
theorem isIntB_dig (s : ByteArray) (h : isIntB s = true) : (∀ c ∈ (dgs s).data.toList, dig c) ∧ 0 < (dgs s).size ∧ (dgs s).size ≤ 2500 := by
  unfold isIntB at h
  simp only [Bool.and_eq_true, decide_eq_true_eq] at h
  obtain ⟨⟨⟨h1, h2⟩, h3⟩, _⟩ := h
  refine ⟨fun c hc => ?_, h1, h2⟩
  rw [List.all_eq_true] at h3
  have := h3 c hc
  simpa [isDig, dig] using this
theorem isNeg_size (s : ByteArray) : decide ((dgs s).size < s.size) = isNeg s := by
  cases h : isNeg s with
  | true =>
    obtain ⟨h0, _⟩ := isNeg_yes s h
    rw [dgs_neg s h, ext_size]
    simp; omega
  | false => rw [dgs_pos s h]; simp
/-- Row k of the chunks, as the loop reads it. -/
theorem chunk_ext (d : ByteArray) (k : Nat) : num (d.extract (d.size - 9 * k - 9) (d.size - 9 * k)).data.toList = chunk d.data.toList k := by
  unfold chunk
  rw [Lib.extract_data, ← Lib.size_eq]
  congr 1
  rw [List.drop_take]
set_option maxRecDepth 100000 in
set_option maxHeartbeats 1000000 in
theorem cutInteger_any (s : ByteArray) (w : World) (hs : s.size ≤ maxLen) (hi : isIntB s = true) :
    Calls Tryd.prog 43 #[.string s] w fun e w' => ∃ v, e = .returned (.agg #[.bool (negOf (isNeg s) (trimL (chunks (dgs s).data.toList))), v]) ∧
      IsL w.heap.size w' v (trimL (chunks (dgs s).data.toList)) ∧ Below w.heap.size w w' := by
  obtain ⟨hdig, hd1, hd2⟩ := isIntB_dig s hi
  obtain ⟨d, hd⟩ : ∃ d, dgs s = d := ⟨_, rfl⟩
  rw [hd] at hdig hd1 hd2 ⊢
  have HD : Hid (dgs s = d) := hd
  have HG : Hid (∀ c ∈ d.data.toList, dig c) := hdig
  obtain ⟨i0, hinf, hz0, hz1, hz2⟩ := info_parts Tryd.info_u32
  clear hi hd hdig
  go_enter Tryd.func43, Tryd.ntmps43
  go_wp2_with (first
    | (go_at_call 62; refine (trim_any _ _ hs).mono ?_; rintro e w' ⟨rfl, rfl⟩; rw [HD.out])
    | (at_make; refine wpList_make_own _ rfl _ _ 26 rfl (w.heap.size + 1) 51 i0 (.int .u32 0) 1 Tryd.underlying26 hinf hz0 hz1 .i64 .i64 _ (d.size / 9 + 1) rfl rfl ?m1 ?m2 ?m3 ?m4 ?_))
  case m1 => omega
  case m2 => rw [hz2]; omega
  case m3 => unfold maxLen; omega
  case m4 => simp
  intro wm hown hgrow
  obtain ⟨W0, hW0⟩ : ∃ W0, w.alloc (.cells #[.bool false, .slice none 0 0] 33) = W0 := ⟨_, rfl⟩
  have HW0 : Hid (w.alloc (.cells #[.bool false, .slice none 0 0] 33) = W0) := hW0
  rw [hW0] at hgrow
  have hsz : W0.heap.size = w.heap.size + 1 := by rw [← hW0]; simp
  have hbm : Below (w.heap.size + 1) W0 wm := (Below.refl _ _).grown hgrow (by omega) (fun k h => by cases h)
  have HSZ : Hid (W0.heap.size = w.heap.size + 1) := hsz
  clear hgrow hW0 hsz
  go_wp2
  go_loopw [4, 5] (fun v e wr => ∃ k : Nat, 9 * k ≤ d.size + 8 ∧ e = .int .i64 (d.size - 9 * k) ∧
      wr.ownsRow (w.heap.size + 1) 51 1 v k ((List.range k).map (fun i => Value.int .u32 (chunk d.data.toList i : Nat))) ∧ Below (w.heap.size + 1) W0 wr)
    (fun _ e _ => (intOf e).toNat)
  case atStart => exact ⟨0, by omega, by simp, hown, hbm⟩
  case round =>
    clear hown hbm
    obtain ⟨k, hk, rfl, hown, hB⟩ := hrel
    by_cases hlt : 9 * k < d.size
    · have hch := chunk_lt d.data.toList k HG.out
      have hkk : k ≤ d.size := by omega
      go_wp2_with fail
      · rw [show d.extract ((d.size : Int) - 9 * k - 9).toNat (d.size - 9 * k) = d.extract (d.size - 9 * k - 9) (d.size - 9 * k) by rw [show ((d.size : Int) - 9 * k - 9).toNat = d.size - 9 * k - 9 by omega]]
        refine (readLimb_any _ _ ?ph9 ?phdg).mono ?_
        case ph9 => rw [ByteArray.size_extract]; omega
        case phdg =>
          intro c hc
          rw [Lib.extract_data] at hc
          exact HG.out c (List.mem_of_mem_drop (List.mem_of_mem_take hc))
        rintro e w' ⟨rfl, rfl⟩
        rw [chunk_ext]
        go_wp2_with (at_builtin; refine wpList_append_own _ rfl _ _ 26 rfl (w.heap.size + 1) 51 i0 (.int .u32 0) 1 4 Tryd.underlying26 hinf hz0 hz1 hz2 rfl (by decide) _ _ _ rfl (hown.alloc _) ⟨w'.heap.size, 0, none⟩ 1 1 [.int .u32 (chunk d.data.toList k : Nat)] rfl rfl (cell_one_new _ _ _) ?pc2 ?pc3 ?pc4 ?pc5 ?_)
        case pc2 => intro u hu; simp at hu; subst hu; rfl
        case pc3 => unfold maxLen; omega
        case pc4 => omega
        case pc5 => have := hB.size; have := HSZ.out; simp; omega
        intro v' w1 hown' hgrow' _
        have hB' : Below (w.heap.size + 1) W0 w1 := (hB.alloc (by have := hB.size; have := HSZ.out; omega) _).grown hgrow' (by have := hB.size; have := HSZ.out; simp; omega) (fun q hq => (hown.lt q hq).1)
        clear hgrow' hown hB
        go_wp2
        go_roundw
        case rel => exact ⟨k + 1, by omega, val_int (by omega), by rw [List.range_succ, List.map_append]; exact hown', hB'⟩
        case measure => simp [intOf]; omega
      · rw [show d.extract 0 (d.size - 9 * k) = d.extract (d.size - 9 * k - 9) (d.size - 9 * k) by rw [show d.size - 9 * k - 9 = 0 by omega]]
        refine (readLimb_any _ _ ?qh9 ?qhdg).mono ?_
        case qh9 => rw [ByteArray.size_extract]; omega
        case qhdg =>
          intro c hc
          rw [Lib.extract_data] at hc
          exact HG.out c (List.mem_of_mem_drop (List.mem_of_mem_take hc))
        rintro e w' ⟨rfl, rfl⟩
        rw [chunk_ext]
        go_wp2_with (at_builtin; refine wpList_append_own _ rfl _ _ 26 rfl (w.heap.size + 1) 51 i0 (.int .u32 0) 1 4 Tryd.underlying26 hinf hz0 hz1 hz2 rfl (by decide) _ _ _ rfl (hown.alloc _) ⟨w'.heap.size, 0, none⟩ 1 1 [.int .u32 (chunk d.data.toList k : Nat)] rfl rfl (cell_one_new _ _ _) ?qc2 ?qc3 ?qc4 ?qc5 ?_)
        case qc2 => intro u hu; simp at hu; subst hu; rfl
        case qc3 => unfold maxLen; omega
        case qc4 => omega
        case qc5 => have := hB.size; have := HSZ.out; simp; omega
        intro v' w1 hown' hgrow' _
        have hB' : Below (w.heap.size + 1) W0 w1 := (hB.alloc (by have := hB.size; have := HSZ.out; omega) _).grown hgrow' (by have := hB.size; have := HSZ.out; simp; omega) (fun q hq => (hown.lt q hq).1)
        clear hgrow' hown hB
        go_wp2
        go_roundw
        case rel => exact ⟨k + 1, by omega, val_int (by omega), by rw [List.range_succ, List.map_append]; exact hown', hB'⟩
        case measure => simp [intOf]; omega
    · have hkc : k = cnt d.size := by unfold cnt; omega
      have hL : IsL (w.heap.size + 1) wr u4 (chunks d.data.toList) := by
        unfold chunks
        rw [← Lib.size_eq, ← hkc]
        refine isL_of_owns (e := 51) ?_ (fun x hx => ?_)
        · simpa [Function.comp_def] using hown
        · rw [List.mem_map] at hx
          obtain ⟨i, _, rfl⟩ := hx
          exact chunk_lt d.data.toList i HG.out
      have HL : Hid (IsL (w.heap.size + 1) wr u4 (chunks d.data.toList)) := hL
      clear hL hown hkc
      go_wp2_with fail
      refine (makeInteger_any _ _ _ _ _ HL.out).mono ?_
      rintro e w1 ⟨v', rfl, hcut, hb1⟩
      have HC : Hid (IsL (w.heap.size + 1) w1 v' (trimL (chunks d.data.toList))) := (hcut _ _ HL.out).below hb1
      have hB1 : Below (w.heap.size + 1) W0 w1 := hB.trans (hb1.mono (by have := hB.size; have := HSZ.out; omega))
      have hc0 : w1.cell? ⟨w.heap.size, 0, none⟩ = some (.bool false) := by
        rw [hB1.cell (p := ⟨w.heap.size, 0, none⟩) (Nat.lt_succ_self _), ← HW0.out, World.cell?_alloc_at _ _ _ _ rfl]; rfl
      have hc1 : w1.cell? ⟨w.heap.size, 1, none⟩ = some (.slice none 0 0) := by
        rw [hB1.cell (p := ⟨w.heap.size, 1, none⟩) (Nat.lt_succ_self _), ← HW0.out, World.cell?_alloc_at _ _ _ _ rfl]; rfl
      have hf0 : w1.frozen? ⟨w.heap.size, 0, none⟩ = false := by
        rw [hB1.frozen (p := ⟨w.heap.size, 0, none⟩) (Nat.lt_succ_self _), ← HW0.out, World.frozen?_alloc_at _ _ _ _ rfl]
      have hf1 : w1.frozen? ⟨w.heap.size, 1, none⟩ = false := by
        rw [hB1.frozen (p := ⟨w.heap.size, 1, none⟩) (Nat.lt_succ_self _), ← HW0.out, World.frozen?_alloc_at _ _ _ _ rfl]
      have hlast : Below w.heap.size w w1 := by
        have h0 := below_alloc w (.cells #[.bool false, .slice none 0 0] 33)
        rw [HW0.out] at h0
        exact h0.trans (hB1.mono (Nat.le_succ _))
      have HB : Hid (Below w.heap.size w w1) := hlast
      obtain ⟨a', cap', hv', _⟩ := hcut _ _ HL.out
      subst hv'
      clear hcut hb1 hB1 hB hlast
      go_wp2
      refine bodyPost_ret (v := .agg #[.bool (negOf (decide (d.size < s.size)) (trimL (chunks d.data.toList))), .slice a' (trimL (chunks d.data.toList)).length cap']) ?_ rfl
        ⟨_, by rw [← isNeg_size s, HD.out], ((HC.out.setCell _ _ (Nat.lt_succ_self _)).setCell _ _ (Nat.lt_succ_self _)).mono (Nat.le_succ _), (HB.out.setCell (Nat.le_refl _) _).setCell (Nat.le_refl _) _⟩
      simp [results, Tryd.results43, go_sem, hc0, hc1]
set_option maxHeartbeats 400000 in
theorem readInteger_yes (s : ByteArray) (w : World) (hs : s.size ≤ maxLen) (hi : isIntB s = true) :
    Calls Tryd.prog 26 #[.string s] w fun e w' => ∃ v, e = .returned (.tuple #[.agg #[.bool (negOf (isNeg s) (trimL (chunks (dgs s).data.toList))), v], .bool true]) ∧
      IsL w.heap.size w' v (trimL (chunks (dgs s).data.toList)) ∧ Below w.heap.size w w' := by
  have HI : Hid (isIntB s = true) := hi
  clear hi
  go_enter Tryd.func26, Tryd.ntmps26
  go_wp2_with (go_at_call 42; refine (isInt_impl _ _ hs).mono ?_; rintro e w' ⟨rfl, hw'⟩; subst w'; rw [HI.out])
  have HX : Hid (∀ W, Below (w.alloc (.cells #[.bool false, .slice none 0 0] 33)).heap.size (w.alloc (.cells #[.bool false, .slice none 0 0] 33)) W → (W.cell? ⟨w.heap.size, 0, none⟩ = some (.bool false) ∧ W.cell? ⟨w.heap.size, 1, none⟩ = some (.slice none 0 0)) ∧ (W.frozen? ⟨w.heap.size, 0, none⟩ = false ∧ W.frozen? ⟨w.heap.size, 1, none⟩ = false) ∧ Below w.heap.size w W) := fun W hW => by
    have hl : w.heap.size < (w.alloc (.cells #[.bool false, .slice none 0 0] 33)).heap.size := by simp
    refine ⟨⟨?_, ?_⟩, ⟨?_, ?_⟩, (below_alloc _ _).trans (hW.mono (Nat.le_of_lt hl))⟩
    · rw [hW.cell (p := ⟨w.heap.size, 0, none⟩) hl, World.cell?_alloc_at _ _ _ _ rfl]; rfl
    · rw [hW.cell (p := ⟨w.heap.size, 1, none⟩) hl, World.cell?_alloc_at _ _ _ _ rfl]; rfl
    · rw [hW.frozen (p := ⟨w.heap.size, 0, none⟩) hl, World.frozen?_alloc_at _ _ _ _ rfl]
    · rw [hW.frozen (p := ⟨w.heap.size, 1, none⟩) hl, World.frozen?_alloc_at _ _ _ _ rfl]
  refine (cutInteger_any s _ hs HI.out).mono ?_
  rintro e w1 ⟨v, rfl, hv, hb⟩
  obtain ⟨⟨c0, c1⟩, ⟨f0, f1⟩, hB⟩ := HX.out w1 hb
  have HV : Hid (IsL (w.heap.size + 1) w1 v (trimL (chunks (dgs s).data.toList))) := hv.mono (by simp)
  have HB : Hid (Below w.heap.size w w1) := hB
  obtain ⟨p, k, rfl, _⟩ := hv
  clear hb hB
  go_wp2
  refine bodyPost_ret (v := .tuple #[.agg #[.bool (negOf (isNeg s) (trimL (chunks (dgs s).data.toList))), .slice p (trimL (chunks (dgs s).data.toList)).length k], .bool true]) ?_ rfl
    ⟨_, rfl, ((HV.out.setCell _ _ (Nat.lt_succ_self _)).setCell _ _ (Nat.lt_succ_self _)).mono (Nat.le_succ _), (HB.out.setCell (Nat.le_refl _) _).setCell (Nat.le_refl _) _⟩
  simp [results, Tryd.results26, go_sem, c0, c1]
end Go.Proofs.YtpjnglcojamfmaaDoor
