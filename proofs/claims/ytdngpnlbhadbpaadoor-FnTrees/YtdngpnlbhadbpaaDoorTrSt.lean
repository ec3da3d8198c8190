import Derived.Test.YtdngpnlbhadbpaaDoorTrAb
import Derived.WalkMore
namespace Go.Proofs.YtdngpnlbhadbpaaDoor
open Go.ChangeShapes Go.WideShapes Go.ChangeAt Go.RowKit
/-- What scanText answers with. -/
def resT (o : Option (List UInt8 × Nat)) : Ending :=
  match o with
  | some x => .returned (.tuple #[.agg #[.int .i64 6, .string (strOf x.1), .int .i64 0, .int .i64 0], .int .i64 (x.2 + 1 : Nat)])
  | none => .returned (.tuple #[.agg #[.int .i64 0, .string ⟨#[]⟩, .int .i64 0, .int .i64 0], .int .i64 0])
theorem resT_none {o : Option (List UInt8 × Nat)} (h : o = none) : resT o = .returned (.tuple #[.agg #[.int .i64 0, .string ⟨#[]⟩, .int .i64 0, .int .i64 0], .int .i64 0]) := by rw [h]; rfl
theorem drop_at {T : ByteArray} {i : Nat} (h : i < T.size) : T.data.toList.drop i = T[i] :: T.data.toList.drop (i + 1) := by
  rw [List.drop_eq_getElem_cons (by rw [← Lib.size_eq]; exact h)]; rfl
theorem drop_end {T : ByteArray} {i : Nat} (h : ¬ i < T.size) : T.data.toList.drop i = [] := by
  rw [List.drop_eq_nil_iff, ← Lib.size_eq]; omega
theorem builder_new (w : World) {b : Nat} (hb : b = w.heap.size) : Lib.IsBuilder 67 5 b b (Lib.byteCells []) (w.alloc (.cells #[.pointer none, .slice none 0 0] 67)) := by
  subst hb
  exact .inl ⟨Nat.le_refl _, .slice none 0 0, Array.getElem?_push_size, ⟨rfl, .inl ⟨rfl, rfl⟩⟩, by simp [Value.ownBlock]⟩
def mapT (acc : List UInt8) (k : Nat) (o : Option (List UInt8 × Nat)) : Option (List UInt8 × Nat) := o.map (fun x => (acc ++ x.1, k + x.2))
theorem mapT_two (acc : List UInt8) (k : Nat) (o : Option (List UInt8 × Nat)) : mapT acc k (o.map (fun x => (34 :: x.1, x.2 + 2))) = mapT (acc ++ [34]) (k + 2) o := by
  cases o <;> simp [mapT]; omega
theorem mapT_one (acc : List UInt8) (k : Nat) (c : UInt8) (o : Option (List UInt8 × Nat)) : mapT acc k (o.map (fun x => (c :: x.1, x.2 + 1))) = mapT (acc ++ [c]) (k + 1) o := by
  cases o <;> simp [mapT]; omega
set_option maxRecDepth 100000 in
set_option maxHeartbeats 4000000 in
theorem scanText_any (T : ByteArray) (w : World) (hs : T.size ≤ 50000) (h0 : 0 < T.size) :
    Calls Tryd.prog 46 #[.string T] w fun e w' => e = resT (scanT (T.data.toList.drop 1)) ∧ Below w.heap.size w w' := by
  obtain ⟨R, hR⟩ : ∃ R, scanT (T.data.toList.drop 1) = R := ⟨_, rfl⟩
  rw [hR]
  have HR := hidG hR
  clear hR
  go_enter Tryd.func46, Tryd.ntmps46
  go_wp2_with fail
  go_step3
  go_wp2_with fail
  go_step3
  go_wp2_with fail
  go_loopw [5] (fun iv wr => ∃ (i : Nat) (acc : List UInt8), 1 ≤ i ∧ i ≤ T.size ∧ acc.length + 1 ≤ i ∧ iv = .int .i64 (i : Nat) ∧ mapT acc (i - 1) (scanT (T.data.toList.drop i)) = R ∧
      Bx wr w.heap.size [.int .i64 0, .string ⟨#[]⟩, .int .i64 0, .int .i64 0] ∧ Lib.IsBuilder 67 5 (w.heap.size + 1) (w.heap.size + 1) (Lib.byteCells acc) wr ∧ Below (w.heap.size + 1) (w.alloc (.cells #[.int .i64 0, .string ⟨#[]⟩, .int .i64 0, .int .i64 0] 31)) wr) (fun iv _ => T.size + 1 - (intOf iv).toNat)
  case atStart =>
    refine ⟨1, [], by omega, by omega, by simp, rfl, ?_, (bx_new w _ _).alloc _, ?_, ?_⟩
    · unfold mapT; rw [HR.out]; cases R <;> simp
    · exact builder_new (w.alloc (.cells #[.int .i64 0, .string ⟨#[]⟩, .int .i64 0, .int .i64 0] 31)) (by simp)
    · exact (Below.refl _ _).alloc (by simp) _
  case round =>
    obtain ⟨i, acc, hi1, hi, hal, rfl, hm, hx, hbd, hbe⟩ := hrel
    have HX := hidG hx
    have HBE := hidG hbe
    have HBD := hidG hbd
    have hsz : w.heap.size + 1 ≤ wr.heap.size := by have := hbe.size; simpa using this
    by_cases hl : i < T.size
    · rw [drop_at hl] at hm
      by_cases hc : T[i] = 34
      · rw [hc] at hm
        have y1 : ((T[i].toNat : Int) == 34) = true := by rw [hc]; rfl
        by_cases hl2 : i + 1 < T.size
        · rw [drop_at hl2] at hm
          by_cases hd : T[i + 1] = 34
          · rw [hd, scanT_two, mapT_two] at hm
            have y2 : ((T[i + 1].toNat : Int) == 34) = true := by rw [hd]; rfl
            have HM := hidG hm
            have HC := hidG hc
            clear hm hc hd hx hbe
            go_wp2_with (first | (go_at_call 41; refine (writeByte_any (w.heap.size + 1) (w.heap.size + 1) (Lib.byteCells acc) _ _ HBD.out (by rw [Lib.byteCells_length]; omega) hsz).mono ?_; rintro e w1 ⟨rfl, hb1, hbe1⟩; have HB1 := hidG hb1; have HBE1 := hidG hbe1; clear hb1 hbe1))
            go_roundw
            case rel => exact ⟨i + 2, acc ++ [34], by omega, by omega, by simp; omega, by go_num, by have := HM.out; rw [show i - 1 + 2 = i + 2 - 1 by omega] at this; exact this, HX.out.below (N := w.heap.size + 1) (by omega) HBE1.out, .inr (by have := HB1.out; rw [HC.out] at this; rw [Lib.byteCells_append]; exact this), HBE.out.trans (HBE1.out.mono (by omega))⟩
            case measure => simp [intOf]; omega
          · rw [scanT_one hd] at hm
            have y2 : ((T[i + 1].toNat : Int) == 34) = false := by rw [beq_eq_false_iff_ne]; intro e; exact hd (UInt8.toNat_inj.1 (by have e2 : (34 : UInt8).toNat = 34 := rfl; omega))
            have HM := hidG hm
            clear hm hc hd hx hbe
            go_wp2_with (first | (go_at_call 42; refine (builderString_any (w.heap.size + 1) (w.heap.size + 1) acc _ HBD.out hsz).mono ?_; rintro e w1 ⟨rfl, hbe1⟩; have hx1 := HX.out.below (N := w.heap.size + 1) (by omega) hbe1; have HX1 := hidG hx1; have HBE1 := hidG hbe1; obtain ⟨c0, c1, c2, c3⟩ := hx1.c4; have f0 := hx1.frozen 0; have f1 := hx1.frozen 1; have f2 := hx1.frozen 2; have f3 := hx1.frozen 3; clear hbe1 hx1))
            have hx4 := ((((HX1.out.set 0 (.int .i64 6)).set 1 (.string ⟨acc.toArray⟩)).set 2 (.int .i64 0)).set 3 (.int .i64 0))
            obtain ⟨e0, e1, e2, e3⟩ := hx4.c4
            try rw [Exit.noGoto_ret]
            refine bodyPost_ret (v := .tuple #[.agg #[.int .i64 6, .string ⟨acc.toArray⟩, .int .i64 0, .int .i64 0], .int .i64 (i + 1 : Nat)]) ?_ rfl ⟨?_, ?_⟩
            · clear c0 c1 c2 c3 f0 f1 f2 f3
              simp [results, Tryd.results46, go_sem, e0, e1, e2, e3]
            · rw [← HM.out]
              simp [mapT, resT, strOf]
              omega
            · exact ((((((below_alloc w _).trans ((HBE.out.trans HBE1.out).mono (by omega))).setCell (p := ⟨w.heap.size, 0, none⟩) (Nat.le_refl _) _).setCell (p := ⟨w.heap.size, 1, none⟩) (Nat.le_refl _) _).setCell (p := ⟨w.heap.size, 2, none⟩) (Nat.le_refl _) _).setCell (p := ⟨w.heap.size, 3, none⟩) (Nat.le_refl _) _)
        · rw [drop_end hl2, scanT_end] at hm
          have HM := hidG hm
          clear hm hc hx hbe
          go_wp2_with (first | (go_at_call 42; refine (builderString_any (w.heap.size + 1) (w.heap.size + 1) acc _ HBD.out hsz).mono ?_; rintro e w1 ⟨rfl, hbe1⟩; have hx1 := HX.out.below (N := w.heap.size + 1) (by omega) hbe1; have HX1 := hidG hx1; have HBE1 := hidG hbe1; obtain ⟨c0, c1, c2, c3⟩ := hx1.c4; have f0 := hx1.frozen 0; have f1 := hx1.frozen 1; have f2 := hx1.frozen 2; have f3 := hx1.frozen 3; clear hbe1 hx1))
          have hx4 := ((((HX1.out.set 0 (.int .i64 6)).set 1 (.string ⟨acc.toArray⟩)).set 2 (.int .i64 0)).set 3 (.int .i64 0))
          obtain ⟨e0, e1, e2, e3⟩ := hx4.c4
          try rw [Exit.noGoto_ret]
          refine bodyPost_ret (v := .tuple #[.agg #[.int .i64 6, .string ⟨acc.toArray⟩, .int .i64 0, .int .i64 0], .int .i64 (i + 1 : Nat)]) ?_ rfl ⟨?_, ?_⟩
          · clear c0 c1 c2 c3 f0 f1 f2 f3
            simp [results, Tryd.results46, go_sem, e0, e1, e2, e3]
          · rw [← HM.out]
            simp [mapT, resT, strOf]
            omega
          · exact ((((((below_alloc w _).trans ((HBE.out.trans HBE1.out).mono (by omega))).setCell (p := ⟨w.heap.size, 0, none⟩) (Nat.le_refl _) _).setCell (p := ⟨w.heap.size, 1, none⟩) (Nat.le_refl _) _).setCell (p := ⟨w.heap.size, 2, none⟩) (Nat.le_refl _) _).setCell (p := ⟨w.heap.size, 3, none⟩) (Nat.le_refl _) _)
      · rw [scanT_other hc] at hm
        have y1 : ((T[i].toNat : Int) == 34) = false := by rw [beq_eq_false_iff_ne]; intro e; exact hc (UInt8.toNat_inj.1 (by have e2 : (34 : UInt8).toNat = 34 := rfl; omega))
        by_cases ht : textB T[i] = true
        · rw [if_pos ht, mapT_one] at hm
          have HM := hidG hm
          have HT := hidG ht
          clear hm hc ht hx hbe
          go_wp2_with (first | (go_at_call 62; refine (isTextByte_ex T[i] _).mono ?_; rintro e w' ⟨rfl, rfl⟩; rw [HT.out]) | (go_at_call 41; refine (writeByte_any (w.heap.size + 1) (w.heap.size + 1) (Lib.byteCells acc) _ _ HBD.out (by rw [Lib.byteCells_length]; omega) hsz).mono ?_; rintro e w1 ⟨rfl, hb1, hbe1⟩; have HB1 := hidG hb1; have HBE1 := hidG hbe1; clear hb1 hbe1))
          go_roundw
          case rel => exact ⟨i + 1, acc ++ [T[i]], by omega, by omega, by simp; omega, by go_num, by have := HM.out; rw [show i - 1 + 1 = i + 1 - 1 by omega] at this; exact this, HX.out.below (N := w.heap.size + 1) (by omega) HBE1.out, .inr (by have := HB1.out; rw [Lib.byteCells_append]; exact this), HBE.out.trans (HBE1.out.mono (by omega))⟩
          case measure => simp [intOf]; omega
        · rw [if_neg ht] at hm
          have HM := hidG hm
          have HT : Hid (textB T[i] = false) := by unfold Hid; simpa using ht
          clear hm hc ht hx hbe
          have hx := HX.out
          obtain ⟨c0, c1, c2, c3⟩ := hx.c4
          have f0 := hx.frozen 0
          have f1 := hx.frozen 1
          have f2 := hx.frozen 2
          have f3 := hx.frozen 3
          clear hx
          go_wp2_with (first | (go_at_call 62; refine (isTextByte_ex T[i] _).mono ?_; rintro e w' ⟨rfl, rfl⟩; rw [HT.out]))
          have hx4 := ((((HX.out.set 0 (.int .i64 0)).set 1 (.string ⟨#[]⟩)).set 2 (.int .i64 0)).set 3 (.int .i64 0))
          obtain ⟨e0, e1, e2, e3⟩ := hx4.c4
          try rw [Exit.noGoto_ret]
          refine bodyPost_ret (v := .tuple #[.agg #[.int .i64 0, .string ⟨#[]⟩, .int .i64 0, .int .i64 0], .int .i64 0]) ?_ rfl ⟨?_, ?_⟩
          · clear c0 c1 c2 c3 f0 f1 f2 f3
            simp [results, Tryd.results46, go_sem, e0, e1, e2, e3]
          · rw [← HM.out]; rfl
          · exact (((((below_alloc w _).trans (HBE.out.mono (by omega))).setCell (p := ⟨w.heap.size, 0, none⟩) (Nat.le_refl _) _).setCell (p := ⟨w.heap.size, 1, none⟩) (Nat.le_refl _) _).setCell (p := ⟨w.heap.size, 2, none⟩) (Nat.le_refl _) _).setCell (p := ⟨w.heap.size, 3, none⟩) (Nat.le_refl _) _
    · rw [drop_end hl] at hm
      have HM := hidG hm
      clear hm hx hbe
      have hx := HX.out
      obtain ⟨c0, c1, c2, c3⟩ := hx.c4
      have f0 := hx.frozen 0
      have f1 := hx.frozen 1
      have f2 := hx.frozen 2
      have f3 := hx.frozen 3
      clear hx
      go_wp2_with (first | fail)
      have hx4 := ((((HX.out.set 0 (.int .i64 0)).set 1 (.string ⟨#[]⟩)).set 2 (.int .i64 0)).set 3 (.int .i64 0))
      obtain ⟨e0, e1, e2, e3⟩ := hx4.c4
      try rw [Exit.noGoto_ret]
      refine bodyPost_ret (v := .tuple #[.agg #[.int .i64 0, .string ⟨#[]⟩, .int .i64 0, .int .i64 0], .int .i64 0]) ?_ rfl ⟨?_, ?_⟩
      · clear c0 c1 c2 c3 f0 f1 f2 f3
        simp [results, Tryd.results46, go_sem, e0, e1, e2, e3]
      · rw [← HM.out]; rfl
      · exact (((((below_alloc w _).trans (HBE.out.mono (by omega))).setCell (p := ⟨w.heap.size, 0, none⟩) (Nat.le_refl _) _).setCell (p := ⟨w.heap.size, 1, none⟩) (Nat.le_refl _) _).setCell (p := ⟨w.heap.size, 2, none⟩) (Nat.le_refl _) _).setCell (p := ⟨w.heap.size, 3, none⟩) (Nat.le_refl _) _
end Go.Proofs.YtdngpnlbhadbpaaDoor
