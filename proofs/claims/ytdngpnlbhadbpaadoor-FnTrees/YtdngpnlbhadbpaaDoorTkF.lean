import Derived.Test.YtdngpnlbhadbpaaDoorTkE
namespace Go.Proofs.YtdngpnlbhadbpaaDoor
open Go.ChangeShapes Go.WideShapes Go.ChangeAt Go.RowKit
/-- A row of bits, and where its text ends: none where it is empty. -/
def bitR (l : List UInt8) (k : Nat) : Ending := if l.isEmpty then resK 0 ⟨#[]⟩ 0 else resK 5 (strOf l) k
theorem bitR_0 {l : List UInt8} {k : Nat} (h : l.length = 0) : Ending.returned (.agg #[.int .i64 0, .string ⟨#[]⟩, .int .i64 0]) = bitR l k := by
  rw [List.eq_nil_of_length_eq_zero h]; rfl
theorem bitR_1 {l : List UInt8} {k : Nat} (h : 0 < l.length) : Ending.returned (.agg #[.int .i64 5, .string (strOf l), .int .i64 (k : Nat)]) = bitR l k := by
  cases l with
  | nil => simp at h
  | cons a r => rfl
theorem take_snoc_at {s : ByteArray} {i k : Nat} (hik : i ≤ k) (h : k < s.size) : (s.data.toList.drop i).take (k + 1 - i) = (s.data.toList.drop i).take (k - i) ++ [s[k]] := by
  rw [show k + 1 - i = (k - i) + 1 by omega, List.take_succ_eq_append_getElem (by rw [List.length_drop, ← Lib.size_eq]; omega)]
  congr 1
  rw [List.getElem_drop]
  have : i + (k - i) = k := by omega
  simp only [this]; rfl
theorem bitB_iff' (c : UInt8) : bitB c = true ↔ c.toNat = 48 ∨ c.toNat = 49 := by simp [bitB]
set_option maxRecDepth 100000 in
set_option maxHeartbeats 4000000 in
theorem l3Bits_b (s : ByteArray) (i r : Nat) (w : World) (hs : s.size ≤ 20000) (hi : i + 2 < s.size) (hd : s[i + 1].toNat = 98) (hr : runL bitB (s.data.toList.drop (i + 2)) = r) :
    Calls Tryd.prog 70 #[.string s, .int .i64 (i : Nat)] w fun e w' => e = bitR ((s.data.toList.drop (i + 2)).take r) (i + 2 + r) ∧ Below w.heap.size w w' := by
  have HR : Hid (∀ j, i + 2 ≤ j → j ≤ s.size → runL bitB (s.data.toList.drop (i + 2)) = j - (i + 2) → bitR ((s.data.toList.drop (i + 2)).take (j - (i + 2))) j = bitR ((s.data.toList.drop (i + 2)).take r) (i + 2 + r)) := fun j h1 h2 h3 => by
    rw [show j - (i + 2) = r by omega, show j = i + 2 + r by omega]
  obtain ⟨R, hR⟩ : ∃ R, bitR ((s.data.toList.drop (i + 2)).take r) (i + 2 + r) = R := ⟨_, rfl⟩
  rw [hR] at HR ⊢
  clear hR hr
  obtain ⟨i0, hinf, hz0, hz1, hz2⟩ := info_parts Tryd.info_u8
  have z1 : ((s[i + 1].toNat : Int) == 98) = true := by rw [beq_iff_eq]; omega
  clear hd
  go_enter Tryd.func70, Tryd.ntmps70
  go_wp2_with fail
  clear z1
  have hbx := bx_new w [.int .i64 0, .string ⟨#[]⟩, .int .i64 0] 83
  obtain ⟨W0, hW0⟩ : ∃ W0, w.alloc (.cells #[.int .i64 0, .string ⟨#[]⟩, .int .i64 0] 83) = W0 := ⟨_, rfl⟩
  have HBW : Hid (Below w.heap.size w W0) := by unfold Hid; rw [← hW0]; exact below_alloc _ _
  have HS0 : Hid (W0.heap.size = w.heap.size + 1) := by unfold Hid; rw [← hW0]; simp
  rw [hW0] at hbx ⊢
  have HBX : Hid (∀ W, Below (w.heap.size + 1) W0 W → Bx W w.heap.size [.int .i64 0, .string ⟨#[]⟩, .int .i64 0]) := fun W hb => hbx.below (by omega) hb
  clear hW0 hbx
  go_loopw [5, 6] (fun kv v wr => ∃ (k : Nat) (acc : List UInt8), i + 2 ≤ k ∧ k ≤ s.size ∧ acc.length + (i + 2) = k ∧ kv = .int .i64 (k : Nat) ∧ acc = (s.data.toList.drop (i + 2)).take (k - (i + 2)) ∧ acc.all bitB = true ∧ wr.ownsRow (w.heap.size + 1) 5 1 v acc.length (Lib.byteCells acc) ∧ Below (w.heap.size + 1) W0 wr) (fun kv _ _ => s.size - (intOf kv).toNat)
  case atStart => exact ⟨i + 2, [], by omega, by omega, by simp, by go_num, by simp, rfl, ⟨rfl, .inl ⟨rfl, rfl⟩⟩, Below.refl _ _⟩
  case round =>
    obtain ⟨k, acc, hik, hk, hal, rfl, hacc, hall, hown, hB⟩ := hrel
    have HA := hidG hacc
    have HL := hidG hall
    have hal' : acc.length + (i + 2) ≤ k := by omega
    have HAL := hidG hal
    clear hacc hall hal
    have HB := hidG hB
    have kk := HBX.out _ hB
    have HX := hidG kk
    obtain ⟨c0, c1, c2⟩ := kk.c3
    have f0 := kk.frozen 0
    have f1 := kk.frozen 1
    have f2 := kk.frozen 2
    clear kk hB
    by_cases hgo : ∃ h : k < s.size, bitB s[k] = true
    · obtain ⟨hlt, hc⟩ := hgo
      have HC := hidG hc
      rw [bitB_iff'] at hc
      have HN : Hid (acc ++ [s[k]] = (s.data.toList.drop (i + 2)).take (k + 1 - (i + 2)) ∧ (acc ++ [s[k]]).all bitB = true) := ⟨by rw [take_snoc_at hik hlt, ← HA.out], by rw [List.all_append, HL.out]; simp [HC.out]⟩
      rcases hc with hc | hc
      all_goals
        first
          | have y1 : ((s[k].toNat : Int) == 48) = true := by rw [beq_iff_eq]; omega
          | (have y1 : ((s[k].toNat : Int) == 48) = false := by rw [beq_eq_false_iff_ne]; omega
             have y2 : ((s[k].toNat : Int) == 49) = true := by rw [beq_iff_eq]; omega)
        clear hc
        go_wp2_with (at_builtin; refine wpList_append_own_at _ rfl _ _ 22 rfl (w.heap.size + 1) 5 i0 (.int .u8 0) 1 1 Tryd.underlying22 hinf hz0 hz1 hz2 rfl (by decide) u6 acc.length _ rfl (hown.alloc _) ⟨wr.heap.size, 0, none⟩ 1 1 [.int .u8 (s[k].toNat : Int)] rfl rfl ?c1 ?c2 ?c3 ?c4 ?c5 ?_)
        case c1 =>
          intro i u hi
          match i, hi with
          | 0, hi => simp at hi; subst hi; simp [Addr.add]
        case c2 => intro u hu; simp at hu; subst hu; rfl
        case c3 => unfold maxLen; omega
        case c4 => omega
        case c5 => have := HB.out.size; have := HS0.out; simp; omega
        intro v2 w2 hown2 hgr2 _ _
        have hB2 : Below (w.heap.size + 1) W0 w2 := ((HB.out.alloc (by have := HB.out.size; have := HS0.out; omega) _).grown hgr2 (by have := HB.out.size; have := HS0.out; simp; omega) (fun k e => (hown.lt k e).1))
        have HB2 := hidG hB2
        have HO : Hid (w2.ownsRow (w.heap.size + 1) 5 1 v2 (acc ++ [s[k]]).length (Lib.byteCells (acc ++ [s[k]]))) := by
          unfold Hid
          have e : Lib.byteCells (acc ++ [s[k]]) = Lib.byteCells acc ++ [.int .u8 (s[k].toNat : Int)] := by simp [Lib.byteCells]
          rw [e, List.length_append]; exact hown2
        clear hown hown2 hgr2 hB2 c0 c1 c2 f0 f1 f2
        go_wp2
        go_roundw
        case rel => exact ⟨k + 1, acc ++ [s[k]], by omega, by omega, by have := HAL.out; simp; omega, by go_num, HN.out.1, HN.out.2, HO.out, HB2.out⟩
        case measure => simp [intOf]; omega
    · have hno : ∀ h : k < s.size, bitB s[k] = false := fun h => by cases hq : bitB s[k] with
        | true => exact absurd ⟨h, hq⟩ hgo
        | false => rfl
      have HRR : Hid (bitR acc k = R) := by
        have := HR.out k hik hk (runL_drop_stop hik hk (by rw [← HA.out]; exact HL.out) hno)
        rw [← HA.out] at this; exact this
      have HF : Hid ((acc.length = 0 → Ending.returned (.agg #[.int .i64 0, .string ⟨#[]⟩, .int .i64 0]) = R) ∧ (0 < acc.length → Ending.returned (.agg #[.int .i64 5, .string (strOf acc), .int .i64 (k : Nat)]) = R)) := ⟨fun h => (bitR_0 h).trans HRR.out, fun h => (bitR_1 h).trans HRR.out⟩
      clear hgo
      by_cases hlt : k < s.size
      · have hc := hno hlt
        have hc2 : s[k].toNat ≠ 48 ∧ s[k].toNat ≠ 49 := by
          have : ¬ bitB s[k] = true := by rw [hc]; decide
          rw [bitB_iff'] at this; omega
        have y1 : ((s[k].toNat : Int) == 48) = false := by rw [beq_eq_false_iff_ne]; omega
        have y2 : ((s[k].toNat : Int) == 49) = false := by rw [beq_eq_false_iff_ne]; omega
        clear hc hc2 hno
        rcases Nat.eq_zero_or_pos acc.length with ha | ha
        · have HE := hidG (HF.out.1 ha)
          rcases hown.2 with ⟨rfl, _⟩ | ⟨g, cap, cur, rfl, _⟩
          · clear hown ha

            go_wp2_with fail
            have hx4 := (((HX.out.set 0 (.int .i64 0)).set 1 (.string ⟨#[]⟩)).set 2 (.int .i64 0))
            obtain ⟨e0, e1, e2⟩ := hx4.c3
            refine bodyPost_ret (v := .agg #[.int .i64 0, .string ⟨#[]⟩, .int .i64 0]) ?_ rfl ⟨HE.out, ?_⟩
            · clear c0 c1 c2 f0 f1 f2
              simp [results, Tryd.results70, go_sem, e0, e1, e2]
            · exact ((((HBW.out.trans (HB.out.mono (by omega))).setCell (p := ⟨w.heap.size, 0, none⟩) (Nat.le_refl _) _).setCell (p := ⟨w.heap.size, 1, none⟩) (Nat.le_refl _) _).setCell (p := ⟨w.heap.size, 2, none⟩) (Nat.le_refl _) _)
          · rw [ha]
            clear hown ha

            go_wp2_with fail
            have hx4 := (((HX.out.set 0 (.int .i64 0)).set 1 (.string ⟨#[]⟩)).set 2 (.int .i64 0))
            obtain ⟨e0, e1, e2⟩ := hx4.c3
            refine bodyPost_ret (v := .agg #[.int .i64 0, .string ⟨#[]⟩, .int .i64 0]) ?_ rfl ⟨HE.out, ?_⟩
            · clear c0 c1 c2 f0 f1 f2
              simp [results, Tryd.results70, go_sem, e0, e1, e2]
            · exact ((((HBW.out.trans (HB.out.mono (by omega))).setCell (p := ⟨w.heap.size, 0, none⟩) (Nat.le_refl _) _).setCell (p := ⟨w.heap.size, 1, none⟩) (Nat.le_refl _) _).setCell (p := ⟨w.heap.size, 2, none⟩) (Nat.le_refl _) _)
        · have HE := hidG (HF.out.2 ha)
          have hcv := conv_any hown
          rcases hown.2 with ⟨rfl, h0⟩ | ⟨g, cap, cur, rfl, _⟩
          · omega
          · have ya : ((acc.length : Int) == 0) = false := by rw [beq_eq_false_iff_ne]; omega
            clear hown ha

            go_wp2_with fail
            have hx4 := (((HX.out.set 0 (.int .i64 5)).set 1 (.string (strOf acc))).set 2 (.int .i64 ((k : Nat) : Int)))
            obtain ⟨e0, e1, e2⟩ := hx4.c3
            refine bodyPost_ret (v := .agg #[.int .i64 5, .string (strOf acc), .int .i64 ((k : Nat) : Int)]) ?_ rfl ⟨HE.out, ?_⟩
            · clear c0 c1 c2 f0 f1 f2
              simp [results, Tryd.results70, go_sem, e0, e1, e2]
            · exact ((((HBW.out.trans (HB.out.mono (by omega))).setCell (p := ⟨w.heap.size, 0, none⟩) (Nat.le_refl _) _).setCell (p := ⟨w.heap.size, 1, none⟩) (Nat.le_refl _) _).setCell (p := ⟨w.heap.size, 2, none⟩) (Nat.le_refl _) _)
      · clear hno
        rcases Nat.eq_zero_or_pos acc.length with ha | ha
        · have HE := hidG (HF.out.1 ha)
          rcases hown.2 with ⟨rfl, _⟩ | ⟨g, cap, cur, rfl, _⟩
          · clear hown ha

            go_wp2_with fail
            have hx4 := (((HX.out.set 0 (.int .i64 0)).set 1 (.string ⟨#[]⟩)).set 2 (.int .i64 0))
            obtain ⟨e0, e1, e2⟩ := hx4.c3
            refine bodyPost_ret (v := .agg #[.int .i64 0, .string ⟨#[]⟩, .int .i64 0]) ?_ rfl ⟨HE.out, ?_⟩
            · clear c0 c1 c2 f0 f1 f2
              simp [results, Tryd.results70, go_sem, e0, e1, e2]
            · exact ((((HBW.out.trans (HB.out.mono (by omega))).setCell (p := ⟨w.heap.size, 0, none⟩) (Nat.le_refl _) _).setCell (p := ⟨w.heap.size, 1, none⟩) (Nat.le_refl _) _).setCell (p := ⟨w.heap.size, 2, none⟩) (Nat.le_refl _) _)
          · rw [ha]
            clear hown ha

            go_wp2_with fail
            have hx4 := (((HX.out.set 0 (.int .i64 0)).set 1 (.string ⟨#[]⟩)).set 2 (.int .i64 0))
            obtain ⟨e0, e1, e2⟩ := hx4.c3
            refine bodyPost_ret (v := .agg #[.int .i64 0, .string ⟨#[]⟩, .int .i64 0]) ?_ rfl ⟨HE.out, ?_⟩
            · clear c0 c1 c2 f0 f1 f2
              simp [results, Tryd.results70, go_sem, e0, e1, e2]
            · exact ((((HBW.out.trans (HB.out.mono (by omega))).setCell (p := ⟨w.heap.size, 0, none⟩) (Nat.le_refl _) _).setCell (p := ⟨w.heap.size, 1, none⟩) (Nat.le_refl _) _).setCell (p := ⟨w.heap.size, 2, none⟩) (Nat.le_refl _) _)
        · have HE := hidG (HF.out.2 ha)
          have hcv := conv_any hown
          rcases hown.2 with ⟨rfl, h0⟩ | ⟨g, cap, cur, rfl, _⟩
          · omega
          · have ya : ((acc.length : Int) == 0) = false := by rw [beq_eq_false_iff_ne]; omega
            clear hown ha

            go_wp2_with fail
            have hx4 := (((HX.out.set 0 (.int .i64 5)).set 1 (.string (strOf acc))).set 2 (.int .i64 ((k : Nat) : Int)))
            obtain ⟨e0, e1, e2⟩ := hx4.c3
            refine bodyPost_ret (v := .agg #[.int .i64 5, .string (strOf acc), .int .i64 ((k : Nat) : Int)]) ?_ rfl ⟨HE.out, ?_⟩
            · clear c0 c1 c2 f0 f1 f2
              simp [results, Tryd.results70, go_sem, e0, e1, e2]
            · exact ((((HBW.out.trans (HB.out.mono (by omega))).setCell (p := ⟨w.heap.size, 0, none⟩) (Nat.le_refl _) _).setCell (p := ⟨w.heap.size, 1, none⟩) (Nat.le_refl _) _).setCell (p := ⟨w.heap.size, 2, none⟩) (Nat.le_refl _) _)
end Go.Proofs.YtdngpnlbhadbpaaDoor
