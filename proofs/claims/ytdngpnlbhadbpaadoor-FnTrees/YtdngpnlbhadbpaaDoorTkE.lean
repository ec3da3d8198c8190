import Derived.Test.YtdngpnlbhadbpaaDoorTkC
import Derived.Test.YtdngpnlbhadbpaaDoorTrLw
namespace Go.Proofs.YtdngpnlbhadbpaaDoor
open Go.ChangeShapes Go.WideShapes Go.ChangeAt Go.RowKit
def textR (o : Option (List UInt8 × Nat)) (i : Nat) : Ending := match o with | none => resK 0 ⟨#[]⟩ 0 | some (t, n) => resK 6 (strOf t) (i + 1 + n)
set_option maxRecDepth 100000 in
set_option maxHeartbeats 4000000 in
theorem l3Token_text (s : ByteArray) (i : Nat) (w : World) (hs : s.size ≤ 20000) (hi : i < s.size) (hd : s[i].toNat = 34) :
    Calls Tryd.prog 56 #[.string s, .int .i64 (i : Nat)] w fun e w' => e = textR (scanT (s.data.toList.drop (i + 1))) i ∧ Below w.heap.size w w' := by
  obtain ⟨R, hR⟩ : ∃ R, scanT (s.data.toList.drop (i + 1)) = R := ⟨_, rfl⟩
  rw [hR]
  have HR := hidG hR
  clear hR
  obtain ⟨i0, hinf, hz0, hz1, hz2⟩ := info_parts Tryd.info_u8
  have z1 : ((s[i].toNat : Int) == 34) = true := by rw [beq_iff_eq]; omega
  clear hd
  go_enter Tryd.func56, Tryd.ntmps56
  go_wp2_with fail
  clear z1
  have hbx := bx_new w [.int .i64 0, .string ⟨#[]⟩, .int .i64 0] 83
  obtain ⟨W0, hW0⟩ : ∃ W0, w.alloc (.cells #[.int .i64 0, .string ⟨#[]⟩, .int .i64 0] 83) = W0 := ⟨_, rfl⟩
  have HBW : Hid (Below w.heap.size w W0) := by unfold Hid; rw [← hW0]; exact below_alloc _ _
  have HS0 : Hid (W0.heap.size = w.heap.size + 1) := by unfold Hid; rw [← hW0]; simp
  rw [hW0] at hbx ⊢
  have HBX : Hid (∀ W, Below (w.heap.size + 1) W0 W → Bx W w.heap.size [.int .i64 0, .string ⟨#[]⟩, .int .i64 0]) := fun W hb => hbx.below (by omega) hb
  clear hW0 hbx
  go_loopw [6, 7] (fun v iv wr => ∃ (j : Nat) (acc : List UInt8), i + 1 ≤ j ∧ j ≤ s.size ∧ acc.length + (i + 1) ≤ j ∧ iv = .int .i64 (j : Nat) ∧ mapT acc (j - (i + 1)) (scanT (s.data.toList.drop j)) = R ∧ wr.ownsRow (w.heap.size + 1) 5 1 v acc.length (Lib.byteCells acc) ∧ Below (w.heap.size + 1) W0 wr) (fun _ iv _ => s.size - (intOf iv).toNat)
  case atStart =>
    refine ⟨i + 1, [], by omega, by omega, by simp, by go_num, ?_, ⟨rfl, .inl ⟨rfl, rfl⟩⟩, Below.refl _ _⟩
    unfold mapT; rw [HR.out]; cases R <;> simp
  case round =>
    obtain ⟨j, acc, hj1, hj, hal, rfl, hm, hown, hB⟩ := hrel
    have HB := hidG hB
    have k := HBX.out _ hB
    have HX := hidG k
    obtain ⟨c0, c1, c2⟩ := k.c3
    clear k hB
    have f0 := HX.out.frozen 0
    have f1 := HX.out.frozen 1
    have f2 := HX.out.frozen 2
    by_cases hl : j < s.size
    · rw [drop_at hl] at hm
      by_cases hc : s[j] = 34
      · rw [hc] at hm
        have y1 : ((s[j].toNat : Int) == 34) = true := by rw [hc]; rfl
        clear hc
        by_cases hl2 : j + 1 < s.size
        · rw [drop_at hl2] at hm
          by_cases hd : s[j + 1] = 34
          · rw [hd, scanT_two, mapT_two] at hm
            have y2 : ((s[j + 1].toNat : Int) == 34) = true := by rw [hd]; rfl
            have HM := hidG hm
            clear hm hd
            go_wp2_with (at_builtin; refine wpList_append_own_at _ rfl _ _ 22 rfl (w.heap.size + 1) 5 i0 (.int .u8 0) 1 1 Tryd.underlying22 hinf hz0 hz1 hz2 rfl (by decide) u6 acc.length _ rfl (hown.alloc _) ⟨wr.heap.size, 0, none⟩ 1 1 [.int .u8 34] rfl rfl ?c1 ?c2 ?c3 ?c4 ?c5 ?_)
            case c1 =>
              intro i u hi
              match i, hi with
              | 0, hi => simp at hi; subst hi; simp [Addr.add]
            case c2 => intro u hu; simp at hu; subst hu; rfl
            case c3 => unfold maxLen; omega
            case c4 => omega
            case c5 => have := HB.out.size; have := HS0.out; simp; omega
            intro v2 w2 hown2 hgr2 _ _
            have hB2 : Below (w.heap.size + 1) W0 w2 := ((HB.out.alloc (by have := HB.out.size; have := HS0.out; omega) _).grown hgr2 (by have := HB.out.size; have := HS0.out; simp; omega) (fun k e => (hown.lt k e).1))
            have HB2 := hidG hB2
            have HO : Hid (w2.ownsRow (w.heap.size + 1) 5 1 v2 (acc ++ [34]).length (Lib.byteCells (acc ++ [34]))) := by
              unfold Hid
              have e : Lib.byteCells (acc ++ [34]) = Lib.byteCells acc ++ [.int .u8 34] := by simp [Lib.byteCells]
              rw [e, List.length_append]; exact hown2
            clear hown hown2 hgr2 hB2 c0 c1 c2
            go_wp2
            go_roundw
            case rel => exact ⟨j + 2, acc ++ [34], by omega, by omega, by simp; omega, by go_num, (by have := HM.out; rw [show j - (i + 1) + 2 = j + 2 - (i + 1) by omega] at this; exact this), HO.out, HB2.out⟩
            case measure => simp [intOf]; omega
          · rw [scanT_one hd] at hm
            have y2 : ((s[j + 1].toNat : Int) == 34) = false := by rw [beq_eq_false_iff_ne]; intro e; exact hd (UInt8.toNat_inj.1 (by have e2 : (34 : UInt8).toNat = 34 := rfl; omega))
            have HM := hidG hm
            clear hm hd
            have hcv := conv_any hown
            clear hown
            go_wp2_with fail
            have hx4 := (((HX.out.set 0 (.int .i64 6)).set 1 (.string (strOf acc))).set 2 (.int .i64 ((j : Int) + 1)))
            obtain ⟨e0, e1, e2⟩ := hx4.c3
            refine bodyPost_ret (v := .agg #[.int .i64 6, .string (strOf acc), .int .i64 ((j : Int) + 1)]) ?_ rfl ⟨(by rw [← HM.out]; simp [mapT, textR, resK]; omega), ?_⟩
            · clear c0 c1 c2 f0 f1 f2
              simp [results, Tryd.results56, go_sem, e0, e1, e2]
            · exact ((((HBW.out.trans (HB.out.mono (by omega))).setCell (p := ⟨w.heap.size, 0, none⟩) (Nat.le_refl _) _).setCell (p := ⟨w.heap.size, 1, none⟩) (Nat.le_refl _) _).setCell (p := ⟨w.heap.size, 2, none⟩) (Nat.le_refl _) _)
        · rw [drop_end hl2, scanT_end] at hm
          have HM := hidG hm
          clear hm
          have hcv := conv_any hown
          clear hown
          go_wp2_with fail
          have hx4 := (((HX.out.set 0 (.int .i64 6)).set 1 (.string (strOf acc))).set 2 (.int .i64 ((j : Int) + 1)))
          obtain ⟨e0, e1, e2⟩ := hx4.c3
          refine bodyPost_ret (v := .agg #[.int .i64 6, .string (strOf acc), .int .i64 ((j : Int) + 1)]) ?_ rfl ⟨(by rw [← HM.out]; simp [mapT, textR, resK]; omega), ?_⟩
          · clear c0 c1 c2 f0 f1 f2
            simp [results, Tryd.results56, go_sem, e0, e1, e2]
          · exact ((((HBW.out.trans (HB.out.mono (by omega))).setCell (p := ⟨w.heap.size, 0, none⟩) (Nat.le_refl _) _).setCell (p := ⟨w.heap.size, 1, none⟩) (Nat.le_refl _) _).setCell (p := ⟨w.heap.size, 2, none⟩) (Nat.le_refl _) _)
      · rw [scanT_other hc] at hm
        have y1 : ((s[j].toNat : Int) == 34) = false := by rw [beq_eq_false_iff_ne]; intro e; exact hc (UInt8.toNat_inj.1 (by have e2 : (34 : UInt8).toNat = 34 := rfl; omega))
        clear hc
        by_cases ht : textB s[j] = true
        · rw [if_pos ht, mapT_one] at hm
          have HM := hidG hm
          rw [textB_iff] at ht
          clear hm
          by_cases h10 : s[j].toNat = 10
          · have y2 : ((s[j].toNat : Int) != 10) = false := by rw [bne_eq_false_iff_eq]; omega
            clear ht h10
            go_wp2_with (at_builtin; refine wpList_append_own_at _ rfl _ _ 22 rfl (w.heap.size + 1) 5 i0 (.int .u8 0) 1 1 Tryd.underlying22 hinf hz0 hz1 hz2 rfl (by decide) u6 acc.length _ rfl (hown.alloc _) ⟨wr.heap.size, 0, none⟩ 1 1 [.int .u8 (s[j].toNat : Int)] rfl rfl ?c1 ?c2 ?c3 ?c4 ?c5 ?_)
            case c1 =>
              intro i u hi
              match i, hi with
              | 0, hi => simp at hi; subst hi; simp [Addr.add]
            case c2 => intro u hu; simp at hu; subst hu; rfl
            case c3 => unfold maxLen; omega
            case c4 => omega
            case c5 => have := HB.out.size; have := HS0.out; simp; omega
            intro v2 w2 hown2 hgr2 _ _
            have hB2 : Below (w.heap.size + 1) W0 w2 := ((HB.out.alloc (by have := HB.out.size; have := HS0.out; omega) _).grown hgr2 (by have := HB.out.size; have := HS0.out; simp; omega) (fun k e => (hown.lt k e).1))
            have HB2 := hidG hB2
            have HO : Hid (w2.ownsRow (w.heap.size + 1) 5 1 v2 (acc ++ [s[j]]).length (Lib.byteCells (acc ++ [s[j]]))) := by
              unfold Hid
              have e : Lib.byteCells (acc ++ [s[j]]) = Lib.byteCells acc ++ [.int .u8 (s[j].toNat : Int)] := by simp [Lib.byteCells]
              rw [e, List.length_append]; exact hown2
            clear hown hown2 hgr2 hB2 c0 c1 c2
            go_wp2
            go_roundw
            case rel => exact ⟨j + 1, acc ++ [s[j]], by omega, by omega, by simp; omega, by go_num, (by have := HM.out; rw [show j - (i + 1) + 1 = j + 1 - (i + 1) by omega] at this; exact this), HO.out, HB2.out⟩
            case measure => simp [intOf]; omega
          · have y2 : ((s[j].toNat : Int) != 10) = true := by rw [bne_iff_ne]; omega
            have y3 : decide ((s[j].toNat : Int) < 32) = false := by rw [decide_eq_false_iff_not]; omega
            have y4 : decide (126 < (s[j].toNat : Int)) = false := by rw [decide_eq_false_iff_not]; omega
            clear ht h10
            go_wp2_with (at_builtin; refine wpList_append_own_at _ rfl _ _ 22 rfl (w.heap.size + 1) 5 i0 (.int .u8 0) 1 1 Tryd.underlying22 hinf hz0 hz1 hz2 rfl (by decide) u6 acc.length _ rfl (hown.alloc _) ⟨wr.heap.size, 0, none⟩ 1 1 [.int .u8 (s[j].toNat : Int)] rfl rfl ?c1 ?c2 ?c3 ?c4 ?c5 ?_)
            case c1 =>
              intro i u hi
              match i, hi with
              | 0, hi => simp at hi; subst hi; simp [Addr.add]
            case c2 => intro u hu; simp at hu; subst hu; rfl
            case c3 => unfold maxLen; omega
            case c4 => omega
            case c5 => have := HB.out.size; have := HS0.out; simp; omega
            intro v2 w2 hown2 hgr2 _ _
            have hB2 : Below (w.heap.size + 1) W0 w2 := ((HB.out.alloc (by have := HB.out.size; have := HS0.out; omega) _).grown hgr2 (by have := HB.out.size; have := HS0.out; simp; omega) (fun k e => (hown.lt k e).1))
            have HB2 := hidG hB2
            have HO : Hid (w2.ownsRow (w.heap.size + 1) 5 1 v2 (acc ++ [s[j]]).length (Lib.byteCells (acc ++ [s[j]]))) := by
              unfold Hid
              have e : Lib.byteCells (acc ++ [s[j]]) = Lib.byteCells acc ++ [.int .u8 (s[j].toNat : Int)] := by simp [Lib.byteCells]
              rw [e, List.length_append]; exact hown2
            clear hown hown2 hgr2 hB2 c0 c1 c2
            go_wp2
            go_roundw
            case rel => exact ⟨j + 1, acc ++ [s[j]], by omega, by omega, by simp; omega, by go_num, (by have := HM.out; rw [show j - (i + 1) + 1 = j + 1 - (i + 1) by omega] at this; exact this), HO.out, HB2.out⟩
            case measure => simp [intOf]; omega
        · rw [if_neg ht] at hm
          have HM := hidG hm
          rw [textB_iff] at ht
          have y2 : ((s[j].toNat : Int) != 10) = true := by rw [bne_iff_ne]; omega
          clear hm
          by_cases h32 : s[j].toNat < 32
          · have y3 : decide ((s[j].toNat : Int) < 32) = true := by rw [decide_eq_true_iff]; omega
            clear ht h32
            clear hown
            go_wp2_with fail
            have hx4 := (((HX.out.set 0 (.int .i64 0)).set 1 (.string ⟨#[]⟩)).set 2 (.int .i64 0))
            obtain ⟨e0, e1, e2⟩ := hx4.c3
            refine bodyPost_ret (v := .agg #[.int .i64 0, .string ⟨#[]⟩, .int .i64 0]) ?_ rfl ⟨(by rw [← HM.out]; rfl), ?_⟩
            · clear c0 c1 c2 f0 f1 f2
              simp [results, Tryd.results56, go_sem, e0, e1, e2]
            · exact ((((HBW.out.trans (HB.out.mono (by omega))).setCell (p := ⟨w.heap.size, 0, none⟩) (Nat.le_refl _) _).setCell (p := ⟨w.heap.size, 1, none⟩) (Nat.le_refl _) _).setCell (p := ⟨w.heap.size, 2, none⟩) (Nat.le_refl _) _)
          · have y3 : decide ((s[j].toNat : Int) < 32) = false := by rw [decide_eq_false_iff_not]; omega
            have y4 : decide (126 < (s[j].toNat : Int)) = true := by rw [decide_eq_true_iff]; omega
            clear ht h32
            clear hown
            go_wp2_with fail
            have hx4 := (((HX.out.set 0 (.int .i64 0)).set 1 (.string ⟨#[]⟩)).set 2 (.int .i64 0))
            obtain ⟨e0, e1, e2⟩ := hx4.c3
            refine bodyPost_ret (v := .agg #[.int .i64 0, .string ⟨#[]⟩, .int .i64 0]) ?_ rfl ⟨(by rw [← HM.out]; rfl), ?_⟩
            · clear c0 c1 c2 f0 f1 f2
              simp [results, Tryd.results56, go_sem, e0, e1, e2]
            · exact ((((HBW.out.trans (HB.out.mono (by omega))).setCell (p := ⟨w.heap.size, 0, none⟩) (Nat.le_refl _) _).setCell (p := ⟨w.heap.size, 1, none⟩) (Nat.le_refl _) _).setCell (p := ⟨w.heap.size, 2, none⟩) (Nat.le_refl _) _)
    · rw [drop_end hl] at hm
      have HM := hidG hm
      clear hm
      clear hown
      go_wp2_with fail
      have hx4 := (((HX.out.set 0 (.int .i64 0)).set 1 (.string ⟨#[]⟩)).set 2 (.int .i64 0))
      obtain ⟨e0, e1, e2⟩ := hx4.c3
      refine bodyPost_ret (v := .agg #[.int .i64 0, .string ⟨#[]⟩, .int .i64 0]) ?_ rfl ⟨(by rw [← HM.out]; rfl), ?_⟩
      · clear c0 c1 c2 f0 f1 f2
        simp [results, Tryd.results56, go_sem, e0, e1, e2]
      · exact ((((HBW.out.trans (HB.out.mono (by omega))).setCell (p := ⟨w.heap.size, 0, none⟩) (Nat.le_refl _) _).setCell (p := ⟨w.heap.size, 1, none⟩) (Nat.le_refl _) _).setCell (p := ⟨w.heap.size, 2, none⟩) (Nat.le_refl _) _)
end Go.Proofs.YtdngpnlbhadbpaaDoor
