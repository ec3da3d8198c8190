import Derived.Test.YtdngpnlbhadbpaaDoorTrSb
namespace Go.Proofs.YtdngpnlbhadbpaaDoor
open Go.ChangeShapes Go.WideShapes Go.ChangeAt Go.RowKit
set_option maxRecDepth 100000 in
set_option maxHeartbeats 2000000 in
theorem scanNumber_0 (T : ByteArray) (k : Nat) (w : World) (hs : T.size ≤ 50000) (hr : runL dg T.data.toList = k) (h1 : 1 < k) (hT : 0 < T.size) (h0 : T[0].toNat = 48) :
    Calls Tryd.prog 51 #[.string T] w fun e w' => e = resN 0 ⟨#[]⟩ 0 ∧ Below w.heap.size w w' := by
  have HR := hidG hr
  have y0 : decide ((1 : Int) < (k : Int)) = true := by rw [decide_eq_true_iff]; omega
  have y1 : ((T[0].toNat : Int) == 48) = true := by rw [beq_iff_eq]; omega
  clear hr h0
  go_enter Tryd.func51, Tryd.ntmps51
  go_wp2_with (first | (go_at_call 48; refine (runOf_dg T _ (by unfold maxLen; omega)).mono ?_; rintro e w' ⟨rfl, rfl⟩; rw [HR.out]))
  refine bodyPost_ret (v := .tuple #[.agg #[.int .i64 0, .string ⟨#[]⟩, .int .i64 0, .int .i64 0], .int .i64 0]) ?_ rfl ⟨rfl, below_alloc _ _⟩
  simp [results, Tryd.results51, go_sem]
set_option maxRecDepth 100000 in
set_option maxHeartbeats 2000000 in
theorem scanNumber_end (T : ByteArray) (w : World) (hs : T.size ≤ 50000) (hr : runL dg T.data.toList = T.size) (hk0 : 0 < T.size) (h0 : ¬ (1 < T.size ∧ T[0].toNat = 48)) :
    Calls Tryd.prog 51 #[.string T] w fun e w' => e = resN 3 (T) T.size ∧ Below w.heap.size w w' := by
  have HR := hidG hr
  have hkl : T.size ≤ T.size := Nat.le_refl _
  have y0 : decide ((1 : Int) < (T.size : Int)) = false ∨ (decide ((1 : Int) < (T.size : Int)) = true ∧ ((T[0].toNat : Int) == 48) = false) := by
    by_cases h1 : 1 < T.size
    · right; exact ⟨by rw [decide_eq_true_iff]; omega, by rw [beq_eq_false_iff_ne]; intro e; exact h0 ⟨h1, by omega⟩⟩
    · left; rw [decide_eq_false_iff_not]; omega
  clear h0 hr hkl
  have hsz : (T).size ≤ 281474976710656 := by omega
  rcases y0 with y0 | ⟨y0, y00⟩
  · go_enter Tryd.func51, Tryd.ntmps51
    go_wp2_with (first | (go_at_call 48; refine (runOf_dg T _ (by unfold maxLen; omega)).mono ?_; rintro e w' ⟨rfl, rfl⟩; rw [HR.out]) | (go_at_call 64; refine (clone_any _ _ hsz).mono ?_; rintro e w1 ⟨rfl, hb1⟩; have hx := (bx_new w [.int .i64 0, .string ⟨#[]⟩, .int .i64 0, .int .i64 0] 31).below (by simp) hb1; have HX := hidG hx; have HB1 : Hid (Below w.heap.size w w1) := (below_alloc _ _).trans (hb1.mono (by simp)); obtain ⟨c0, c1, c2, c3⟩ := hx.c4; have f0 := hx.frozen 0; have f1 := hx.frozen 1; have f2 := hx.frozen 2; have f3 := hx.frozen 3; clear hb1 hx) | go_in)
    have hx4 := ((((HX.out.set 0 (.int .i64 3)).set 1 (.string T)).set 2 (.int .i64 0)).set 3 (.int .i64 0))
    obtain ⟨e0, e1, e2, e3⟩ := hx4.c4
    refine bodyPost_ret (v := .tuple #[.agg #[.int .i64 3, .string T, .int .i64 0, .int .i64 0], .int .i64 (T.size : Nat)]) ?_ rfl ⟨rfl, ?_⟩
    · clear c0 c1 c2 c3 f0 f1 f2 f3
      simp [results, Tryd.results51, go_sem, e0, e1, e2, e3]
    · exact (((HB1.out.setCell (p := ⟨w.heap.size, 0, none⟩) (Nat.le_refl _) _).setCell (p := ⟨w.heap.size, 1, none⟩) (Nat.le_refl _) _).setCell (p := ⟨w.heap.size, 2, none⟩) (Nat.le_refl _) _).setCell (p := ⟨w.heap.size, 3, none⟩) (Nat.le_refl _) _
  · go_enter Tryd.func51, Tryd.ntmps51
    go_wp2_with (first | (go_at_call 48; refine (runOf_dg T _ (by unfold maxLen; omega)).mono ?_; rintro e w' ⟨rfl, rfl⟩; rw [HR.out]) | (go_at_call 64; refine (clone_any _ _ hsz).mono ?_; rintro e w1 ⟨rfl, hb1⟩; have hx := (bx_new w [.int .i64 0, .string ⟨#[]⟩, .int .i64 0, .int .i64 0] 31).below (by simp) hb1; have HX := hidG hx; have HB1 : Hid (Below w.heap.size w w1) := (below_alloc _ _).trans (hb1.mono (by simp)); obtain ⟨c0, c1, c2, c3⟩ := hx.c4; have f0 := hx.frozen 0; have f1 := hx.frozen 1; have f2 := hx.frozen 2; have f3 := hx.frozen 3; clear hb1 hx) | go_in)
    have hx4 := ((((HX.out.set 0 (.int .i64 3)).set 1 (.string T)).set 2 (.int .i64 0)).set 3 (.int .i64 0))
    obtain ⟨e0, e1, e2, e3⟩ := hx4.c4
    refine bodyPost_ret (v := .tuple #[.agg #[.int .i64 3, .string T, .int .i64 0, .int .i64 0], .int .i64 (T.size : Nat)]) ?_ rfl ⟨rfl, ?_⟩
    · clear c0 c1 c2 c3 f0 f1 f2 f3
      simp [results, Tryd.results51, go_sem, e0, e1, e2, e3]
    · exact (((HB1.out.setCell (p := ⟨w.heap.size, 0, none⟩) (Nat.le_refl _) _).setCell (p := ⟨w.heap.size, 1, none⟩) (Nat.le_refl _) _).setCell (p := ⟨w.heap.size, 2, none⟩) (Nat.le_refl _) _).setCell (p := ⟨w.heap.size, 3, none⟩) (Nat.le_refl _) _
set_option maxRecDepth 100000 in
set_option maxHeartbeats 2000000 in
theorem scanNumber_other (T : ByteArray) (k : Nat) (w : World) (hs : T.size ≤ 50000) (hr : runL dg T.data.toList = k) (hk0 : 0 < k) (h0 : ¬ (1 < k ∧ (T[0]'(by have := runL_le dg T.data.toList; rw [← Lib.size_eq] at this; omega)).toNat = 48)) (hk : k < T.size) (hp : T[k].toNat ≠ 46) :
    Calls Tryd.prog 51 #[.string T] w fun e w' => e = resN 3 (T.extract 0 k) k ∧ Below w.heap.size w w' := by
  have HR := hidG hr
  have hkl : k ≤ T.size := by have := runL_le dg T.data.toList; rw [← Lib.size_eq] at this; omega
  have hT0 : 0 < T.size := by omega
  have y0 : decide ((1 : Int) < (k : Int)) = false ∨ (decide ((1 : Int) < (k : Int)) = true ∧ ((T[0].toNat : Int) == 48) = false) := by
    by_cases h1 : 1 < k
    · right; exact ⟨by rw [decide_eq_true_iff]; omega, by rw [beq_eq_false_iff_ne]; intro e; exact h0 ⟨h1, by omega⟩⟩
    · left; rw [decide_eq_false_iff_not]; omega
  clear h0 hr hk0
  have y2 : decide ((k : Int) < (T.size : Int)) = true := by rw [decide_eq_true_iff]; omega
  have y3 : ((T[k].toNat : Int) == 46) = false := by rw [beq_eq_false_iff_ne]; omega
  clear hp
  have hsz : (T.extract 0 k).size ≤ 281474976710656 := by rw [ByteArray.size_extract]; omega
  obtain ⟨V, hV⟩ : ∃ V, T.extract 0 k = V := ⟨_, rfl⟩
  have HV := hidG hV
  rw [hV] at hsz ⊢
  clear hV
  rcases y0 with y0 | ⟨y0, y00⟩
  · go_enter Tryd.func51, Tryd.ntmps51
    go_wp2_with (first | (go_at_call 48; refine (runOf_dg T _ (by unfold maxLen; omega)).mono ?_; rintro e w' ⟨rfl, rfl⟩; rw [HR.out]) | (go_at_call 64; rw [HV.out]; refine (clone_any _ _ hsz).mono ?_; rintro e w1 ⟨rfl, hb1⟩; have hx := (bx_new w [.int .i64 0, .string ⟨#[]⟩, .int .i64 0, .int .i64 0] 31).below (by simp) hb1; have HX := hidG hx; have HB1 : Hid (Below w.heap.size w w1) := (below_alloc _ _).trans (hb1.mono (by simp)); obtain ⟨c0, c1, c2, c3⟩ := hx.c4; have f0 := hx.frozen 0; have f1 := hx.frozen 1; have f2 := hx.frozen 2; have f3 := hx.frozen 3; clear hb1 hx) | go_in)
    have hx4 := ((((HX.out.set 0 (.int .i64 3)).set 1 (.string V)).set 2 (.int .i64 0)).set 3 (.int .i64 0))
    obtain ⟨e0, e1, e2, e3⟩ := hx4.c4
    refine bodyPost_ret (v := .tuple #[.agg #[.int .i64 3, .string V, .int .i64 0, .int .i64 0], .int .i64 (k : Nat)]) ?_ rfl ⟨rfl, ?_⟩
    · clear c0 c1 c2 c3 f0 f1 f2 f3
      simp [results, Tryd.results51, go_sem, e0, e1, e2, e3]
    · exact (((HB1.out.setCell (p := ⟨w.heap.size, 0, none⟩) (Nat.le_refl _) _).setCell (p := ⟨w.heap.size, 1, none⟩) (Nat.le_refl _) _).setCell (p := ⟨w.heap.size, 2, none⟩) (Nat.le_refl _) _).setCell (p := ⟨w.heap.size, 3, none⟩) (Nat.le_refl _) _
  · go_enter Tryd.func51, Tryd.ntmps51
    go_wp2_with (first | (go_at_call 48; refine (runOf_dg T _ (by unfold maxLen; omega)).mono ?_; rintro e w' ⟨rfl, rfl⟩; rw [HR.out]) | (go_at_call 64; rw [HV.out]; refine (clone_any _ _ hsz).mono ?_; rintro e w1 ⟨rfl, hb1⟩; have hx := (bx_new w [.int .i64 0, .string ⟨#[]⟩, .int .i64 0, .int .i64 0] 31).below (by simp) hb1; have HX := hidG hx; have HB1 : Hid (Below w.heap.size w w1) := (below_alloc _ _).trans (hb1.mono (by simp)); obtain ⟨c0, c1, c2, c3⟩ := hx.c4; have f0 := hx.frozen 0; have f1 := hx.frozen 1; have f2 := hx.frozen 2; have f3 := hx.frozen 3; clear hb1 hx) | go_in)
    have hx4 := ((((HX.out.set 0 (.int .i64 3)).set 1 (.string V)).set 2 (.int .i64 0)).set 3 (.int .i64 0))
    obtain ⟨e0, e1, e2, e3⟩ := hx4.c4
    refine bodyPost_ret (v := .tuple #[.agg #[.int .i64 3, .string V, .int .i64 0, .int .i64 0], .int .i64 (k : Nat)]) ?_ rfl ⟨rfl, ?_⟩
    · clear c0 c1 c2 c3 f0 f1 f2 f3
      simp [results, Tryd.results51, go_sem, e0, e1, e2, e3]
    · exact (((HB1.out.setCell (p := ⟨w.heap.size, 0, none⟩) (Nat.le_refl _) _).setCell (p := ⟨w.heap.size, 1, none⟩) (Nat.le_refl _) _).setCell (p := ⟨w.heap.size, 2, none⟩) (Nat.le_refl _) _).setCell (p := ⟨w.heap.size, 3, none⟩) (Nat.le_refl _) _
set_option maxRecDepth 100000 in
set_option maxHeartbeats 2000000 in
theorem scanNumber_pt (T : ByteArray) (k : Nat) (U : ByteArray) (w : World) (hs : T.size ≤ 50000) (hr : runL dg T.data.toList = k) (hk0 : 0 < k) (h0 : ¬ (1 < k ∧ (T[0]'(by have := runL_le dg T.data.toList; rw [← Lib.size_eq] at this; omega)).toNat = 48)) (hk : k < T.size) (hp : T[k].toNat = 46) (hU : T.extract (k + 1) T.size = U) (hm : runL dg U.data.toList = 0) :
    Calls Tryd.prog 51 #[.string T] w fun e w' => e = resN 3 (T.extract 0 k) k ∧ Below w.heap.size w w' := by
  have HR := hidG hr
  have hkl : k ≤ T.size := by have := runL_le dg T.data.toList; rw [← Lib.size_eq] at this; omega
  have hT0 : 0 < T.size := by omega
  have y0 : decide ((1 : Int) < (k : Int)) = false ∨ (decide ((1 : Int) < (k : Int)) = true ∧ ((T[0].toNat : Int) == 48) = false) := by
    by_cases h1 : 1 < k
    · right; exact ⟨by rw [decide_eq_true_iff]; omega, by rw [beq_eq_false_iff_ne]; intro e; exact h0 ⟨h1, by omega⟩⟩
    · left; rw [decide_eq_false_iff_not]; omega
  clear h0 hr hk0
  have y2 : decide ((k : Int) < (T.size : Int)) = true := by rw [decide_eq_true_iff]; omega
  have y3 : ((T[k].toNat : Int) == 46) = true := by rw [beq_iff_eq]; omega
  have hus : U.size ≤ 50000 := by rw [← hU, ByteArray.size_extract]; omega
  have HU := hidG hU
  have HM := hidG hm
  clear hp hU hm
  have hsz : (T.extract 0 k).size ≤ 281474976710656 := by rw [ByteArray.size_extract]; omega
  obtain ⟨V, hV⟩ : ∃ V, T.extract 0 k = V := ⟨_, rfl⟩
  have HV := hidG hV
  rw [hV] at hsz ⊢
  clear hV
  rcases y0 with y0 | ⟨y0, y00⟩
  · go_enter Tryd.func51, Tryd.ntmps51
    go_wp2_with (first | (go_at_call 48; rw [HU.out]; refine (runOf_dg U _ (by unfold maxLen; omega)).mono ?_; rintro e w' ⟨rfl, rfl⟩; rw [HM.out]) | (go_at_call 48; refine (runOf_dg T _ (by unfold maxLen; omega)).mono ?_; rintro e w' ⟨rfl, rfl⟩; rw [HR.out]) | (go_at_call 64; rw [HV.out]; refine (clone_any _ _ hsz).mono ?_; rintro e w1 ⟨rfl, hb1⟩; have hx := (bx_new w [.int .i64 0, .string ⟨#[]⟩, .int .i64 0, .int .i64 0] 31).below (by simp) hb1; have HX := hidG hx; have HB1 : Hid (Below w.heap.size w w1) := (below_alloc _ _).trans (hb1.mono (by simp)); obtain ⟨c0, c1, c2, c3⟩ := hx.c4; have f0 := hx.frozen 0; have f1 := hx.frozen 1; have f2 := hx.frozen 2; have f3 := hx.frozen 3; clear hb1 hx) | go_in)
    have hx4 := ((((HX.out.set 0 (.int .i64 3)).set 1 (.string V)).set 2 (.int .i64 0)).set 3 (.int .i64 0))
    obtain ⟨e0, e1, e2, e3⟩ := hx4.c4
    refine bodyPost_ret (v := .tuple #[.agg #[.int .i64 3, .string V, .int .i64 0, .int .i64 0], .int .i64 (k : Nat)]) ?_ rfl ⟨rfl, ?_⟩
    · clear c0 c1 c2 c3 f0 f1 f2 f3
      simp [results, Tryd.results51, go_sem, e0, e1, e2, e3]
    · exact (((HB1.out.setCell (p := ⟨w.heap.size, 0, none⟩) (Nat.le_refl _) _).setCell (p := ⟨w.heap.size, 1, none⟩) (Nat.le_refl _) _).setCell (p := ⟨w.heap.size, 2, none⟩) (Nat.le_refl _) _).setCell (p := ⟨w.heap.size, 3, none⟩) (Nat.le_refl _) _
  · go_enter Tryd.func51, Tryd.ntmps51
    go_wp2_with (first | (go_at_call 48; rw [HU.out]; refine (runOf_dg U _ (by unfold maxLen; omega)).mono ?_; rintro e w' ⟨rfl, rfl⟩; rw [HM.out]) | (go_at_call 48; refine (runOf_dg T _ (by unfold maxLen; omega)).mono ?_; rintro e w' ⟨rfl, rfl⟩; rw [HR.out]) | (go_at_call 64; rw [HV.out]; refine (clone_any _ _ hsz).mono ?_; rintro e w1 ⟨rfl, hb1⟩; have hx := (bx_new w [.int .i64 0, .string ⟨#[]⟩, .int .i64 0, .int .i64 0] 31).below (by simp) hb1; have HX := hidG hx; have HB1 : Hid (Below w.heap.size w w1) := (below_alloc _ _).trans (hb1.mono (by simp)); obtain ⟨c0, c1, c2, c3⟩ := hx.c4; have f0 := hx.frozen 0; have f1 := hx.frozen 1; have f2 := hx.frozen 2; have f3 := hx.frozen 3; clear hb1 hx) | go_in)
    have hx4 := ((((HX.out.set 0 (.int .i64 3)).set 1 (.string V)).set 2 (.int .i64 0)).set 3 (.int .i64 0))
    obtain ⟨e0, e1, e2, e3⟩ := hx4.c4
    refine bodyPost_ret (v := .tuple #[.agg #[.int .i64 3, .string V, .int .i64 0, .int .i64 0], .int .i64 (k : Nat)]) ?_ rfl ⟨rfl, ?_⟩
    · clear c0 c1 c2 c3 f0 f1 f2 f3
      simp [results, Tryd.results51, go_sem, e0, e1, e2, e3]
    · exact (((HB1.out.setCell (p := ⟨w.heap.size, 0, none⟩) (Nat.le_refl _) _).setCell (p := ⟨w.heap.size, 1, none⟩) (Nat.le_refl _) _).setCell (p := ⟨w.heap.size, 2, none⟩) (Nat.le_refl _) _).setCell (p := ⟨w.heap.size, 3, none⟩) (Nat.le_refl _) _
set_option maxRecDepth 100000 in
set_option maxHeartbeats 2000000 in
theorem scanNumber_dec (T : ByteArray) (k : Nat) (U : ByteArray) (m : Nat) (w : World) (hs : T.size ≤ 50000) (hr : runL dg T.data.toList = k) (hk0 : 0 < k) (h0 : ¬ (1 < k ∧ (T[0]'(by have := runL_le dg T.data.toList; rw [← Lib.size_eq] at this; omega)).toNat = 48)) (hk : k < T.size) (hp : T[k].toNat = 46) (hU : T.extract (k + 1) T.size = U) (hm : runL dg U.data.toList = m) (hm0 : 0 < m) :
    Calls Tryd.prog 51 #[.string T] w fun e w' => e = resN 4 (T.extract 0 (k + 1 + m)) (k + 1 + m) ∧ Below w.heap.size w w' := by
  have HR := hidG hr
  have hkl : k ≤ T.size := by have := runL_le dg T.data.toList; rw [← Lib.size_eq] at this; omega
  have hT0 : 0 < T.size := by omega
  have y0 : decide ((1 : Int) < (k : Int)) = false ∨ (decide ((1 : Int) < (k : Int)) = true ∧ ((T[0].toNat : Int) == 48) = false) := by
    by_cases h1 : 1 < k
    · right; exact ⟨by rw [decide_eq_true_iff]; omega, by rw [beq_eq_false_iff_ne]; intro e; exact h0 ⟨h1, by omega⟩⟩
    · left; rw [decide_eq_false_iff_not]; omega
  clear h0 hr hk0
  have y2 : decide ((k : Int) < (T.size : Int)) = true := by rw [decide_eq_true_iff]; omega
  have y3 : ((T[k].toNat : Int) == 46) = true := by rw [beq_iff_eq]; omega
  have hus : U.size ≤ 50000 := by rw [← hU, ByteArray.size_extract]; omega
  have HU := hidG hU
  have HM := hidG hm
  have hml : k + 1 + m ≤ T.size := by
    have := runL_le dg U.data.toList
    rw [← Lib.size_eq, hm, ← hU, ByteArray.size_extract] at this
    omega
  have y4 : ((m : Int) == 0) = false := by rw [beq_eq_false_iff_ne]; omega
  clear hp hU hm
  have hsz : (T.extract 0 (k + 1 + m)).size ≤ 281474976710656 := by rw [ByteArray.size_extract]; omega
  obtain ⟨V, hV⟩ : ∃ V, T.extract 0 (k + 1 + m) = V := ⟨_, rfl⟩
  have HV := hidG hV
  rw [hV] at hsz ⊢
  clear hV
  rcases y0 with y0 | ⟨y0, y00⟩
  · go_enter Tryd.func51, Tryd.ntmps51
    go_wp2_with (first | (go_at_call 48; rw [HU.out]; refine (runOf_dg U _ (by unfold maxLen; omega)).mono ?_; rintro e w' ⟨rfl, rfl⟩; rw [HM.out]) | (go_at_call 48; refine (runOf_dg T _ (by unfold maxLen; omega)).mono ?_; rintro e w' ⟨rfl, rfl⟩; rw [HR.out]) | (go_at_call 64; rw [HV.out]; refine (clone_any _ _ hsz).mono ?_; rintro e w1 ⟨rfl, hb1⟩; have hx := (bx_new w [.int .i64 0, .string ⟨#[]⟩, .int .i64 0, .int .i64 0] 31).below (by simp) hb1; have HX := hidG hx; have HB1 : Hid (Below w.heap.size w w1) := (below_alloc _ _).trans (hb1.mono (by simp)); obtain ⟨c0, c1, c2, c3⟩ := hx.c4; have f0 := hx.frozen 0; have f1 := hx.frozen 1; have f2 := hx.frozen 2; have f3 := hx.frozen 3; clear hb1 hx) | go_in)
    have hx4 := ((((HX.out.set 0 (.int .i64 4)).set 1 (.string V)).set 2 (.int .i64 0)).set 3 (.int .i64 0))
    obtain ⟨e0, e1, e2, e3⟩ := hx4.c4
    refine bodyPost_ret (v := .tuple #[.agg #[.int .i64 4, .string V, .int .i64 0, .int .i64 0], .int .i64 ((k + 1 + m) : Nat)]) ?_ rfl ⟨rfl, ?_⟩
    · clear c0 c1 c2 c3 f0 f1 f2 f3
      simp [results, Tryd.results51, go_sem, e0, e1, e2, e3]
    · exact (((HB1.out.setCell (p := ⟨w.heap.size, 0, none⟩) (Nat.le_refl _) _).setCell (p := ⟨w.heap.size, 1, none⟩) (Nat.le_refl _) _).setCell (p := ⟨w.heap.size, 2, none⟩) (Nat.le_refl _) _).setCell (p := ⟨w.heap.size, 3, none⟩) (Nat.le_refl _) _
  · go_enter Tryd.func51, Tryd.ntmps51
    go_wp2_with (first | (go_at_call 48; rw [HU.out]; refine (runOf_dg U _ (by unfold maxLen; omega)).mono ?_; rintro e w' ⟨rfl, rfl⟩; rw [HM.out]) | (go_at_call 48; refine (runOf_dg T _ (by unfold maxLen; omega)).mono ?_; rintro e w' ⟨rfl, rfl⟩; rw [HR.out]) | (go_at_call 64; rw [HV.out]; refine (clone_any _ _ hsz).mono ?_; rintro e w1 ⟨rfl, hb1⟩; have hx := (bx_new w [.int .i64 0, .string ⟨#[]⟩, .int .i64 0, .int .i64 0] 31).below (by simp) hb1; have HX := hidG hx; have HB1 : Hid (Below w.heap.size w w1) := (below_alloc _ _).trans (hb1.mono (by simp)); obtain ⟨c0, c1, c2, c3⟩ := hx.c4; have f0 := hx.frozen 0; have f1 := hx.frozen 1; have f2 := hx.frozen 2; have f3 := hx.frozen 3; clear hb1 hx) | go_in)
    have hx4 := ((((HX.out.set 0 (.int .i64 4)).set 1 (.string V)).set 2 (.int .i64 0)).set 3 (.int .i64 0))
    obtain ⟨e0, e1, e2, e3⟩ := hx4.c4
    refine bodyPost_ret (v := .tuple #[.agg #[.int .i64 4, .string V, .int .i64 0, .int .i64 0], .int .i64 ((k + 1 + m) : Nat)]) ?_ rfl ⟨rfl, ?_⟩
    · clear c0 c1 c2 c3 f0 f1 f2 f3
      simp [results, Tryd.results51, go_sem, e0, e1, e2, e3]
    · exact (((HB1.out.setCell (p := ⟨w.heap.size, 0, none⟩) (Nat.le_refl _) _).setCell (p := ⟨w.heap.size, 1, none⟩) (Nat.le_refl _) _).setCell (p := ⟨w.heap.size, 2, none⟩) (Nat.le_refl _) _).setCell (p := ⟨w.heap.size, 3, none⟩) (Nat.le_refl _) _
end Go.Proofs.YtdngpnlbhadbpaaDoor
