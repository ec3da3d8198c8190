import Derived.Test.YtdngpnlbhadbpaaDoorTrAa
import Derived.Test.YtdngpnlbhadbpaaDoorTrSh
namespace Go.Proofs.YtdngpnlbhadbpaaDoor
open Go.ChangeShapes Go.WideShapes Go.ChangeAt Go.RowKit
set_option maxRecDepth 100000 in
set_option maxHeartbeats 2000000 in
theorem scanNode_key (T U : ByteArray) (r : Nat) (w : World) (h : 0 < T.size) (hs : T.size ≤ 50000) (hU : T.extract 1 (U.size + 1) = U) (hr : runL nameB U.data.toList = r) (hr0 : 0 < r) (hrl : r ≤ U.size) (hTU : T.size = U.size + 1) :
    Calls Tryd.prog 23 #[.int .i64 7, .string T] w fun e w' => e = .returned (.tuple #[.agg #[.int .i64 7, .string (T.extract 1 (1 + r)), .int .i64 0, .int .i64 0], .int .i64 (1 + r : Nat)]) ∧ Below w.heap.size w w' := by
  have HU := hidG hU
  have HR := hidG hr
  clear hU hr
  go_enter Tryd.func23, Tryd.ntmps23
  have hsz : (T.extract 1 (1 + r)).size ≤ 281474976710656 := by rw [ByteArray.size_extract]; omega
  have z : ((1 : Int) + (r : Int) == 1) = false := by rw [beq_eq_false_iff_ne]; omega
  obtain ⟨V, hV⟩ : ∃ V, T.extract 1 (1 + r) = V := ⟨_, rfl⟩
  have HV := hidG hV
  rw [hV] at hsz ⊢
  clear hV
  go_wp2_with (first | (go_at_call 48; rw [HU.out]; refine (runOf_name _ _ (by unfold maxLen; omega)).mono ?_; rintro e w' ⟨rfl, rfl⟩; rw [HR.out]) | (go_at_call 64; rw [HV.out]; refine (clone_any _ _ hsz).mono ?_; rintro e w1 ⟨rfl, hb1⟩; have hx := (bx_new w [.int .i64 0, .string ⟨#[]⟩, .int .i64 0, .int .i64 0] 31).below (by simp) hb1; have HX := hidG hx; have HB1 : Hid (Below w.heap.size w w1) := (below_alloc _ _).trans (hb1.mono (by simp)); obtain ⟨c0, c1, c2, c3⟩ := hx.c4; have f0 := hx.frozen 0; have f1 := hx.frozen 1; have f2 := hx.frozen 2; have f3 := hx.frozen 3; clear hb1 hx) | go_in)
  have hx4 := ((((HX.out.set 0 (.int .i64 7)).set 1 (.string V)).set 2 (.int .i64 0)).set 3 (.int .i64 0))
  obtain ⟨e0, e1, e2, e3⟩ := hx4.c4
  refine bodyPost_ret (v := .tuple #[.agg #[.int .i64 7, .string V, .int .i64 0, .int .i64 0], .int .i64 (1 + r : Nat)]) ?_ rfl ⟨rfl, ?_⟩
  · clear c0 c1 c2 c3 f0 f1 f2 f3
    simp [results, Tryd.results23, go_sem, e0, e1, e2, e3]
  · exact (((HB1.out.setCell (p := ⟨w.heap.size, 0, none⟩) (Nat.le_refl _) _).setCell (p := ⟨w.heap.size, 1, none⟩) (Nat.le_refl _) _).setCell (p := ⟨w.heap.size, 2, none⟩) (Nat.le_refl _) _).setCell (p := ⟨w.heap.size, 3, none⟩) (Nat.le_refl _) _
set_option maxRecDepth 100000 in
set_option maxHeartbeats 2000000 in
theorem scanNode_key0 (T U : ByteArray) (w : World) (h : 0 < T.size) (hs : T.size ≤ 50000) (hU : T.extract 1 (U.size + 1) = U) (hr : runL nameB U.data.toList = 0) (hTU : T.size = U.size + 1) :
    Calls Tryd.prog 23 #[.int .i64 7, .string T] w fun e w' => e = .returned (.tuple #[.agg #[.int .i64 0, .string ⟨#[]⟩, .int .i64 0, .int .i64 0], .int .i64 0]) ∧ Below w.heap.size w w' := by
  have HU := hidG hU
  have HR := hidG hr
  clear hU hr
  go_enter Tryd.func23, Tryd.ntmps23
  go_wp2_with (first | (go_at_call 48; rw [HU.out]; refine (runOf_name _ _ (by unfold maxLen; omega)).mono ?_; rintro e w' ⟨rfl, rfl⟩; rw [HR.out]) | go_in)
  refine bodyPost_ret (v := .tuple #[.agg #[.int .i64 0, .string ⟨#[]⟩, .int .i64 0, .int .i64 0], .int .i64 0]) ?_ rfl ⟨rfl, below_alloc _ _⟩
  simp [results, Tryd.results23, go_sem]
set_option maxRecDepth 100000 in
set_option maxHeartbeats 2000000 in
theorem scanNode_name (T : ByteArray) (r : Nat) (w : World) (hs : T.size ≤ 50000) (hr : runL nameB T.data.toList = r) (hrl : r ≤ T.size) :
    Calls Tryd.prog 23 #[.int .i64 10, .string T] w fun e w' => e = .returned (.tuple #[.agg #[.int .i64 2, .string (T.extract 0 r), .int .i64 0, .int .i64 0], .int .i64 (r : Nat)]) ∧ Below w.heap.size w w' := by
  have HR := hidG hr
  clear hr
  go_enter Tryd.func23, Tryd.ntmps23
  have hsz : (T.extract 0 r).size ≤ 281474976710656 := by rw [ByteArray.size_extract]; omega
  obtain ⟨V, hV⟩ : ∃ V, T.extract 0 r = V := ⟨_, rfl⟩
  have HV := hidG hV
  rw [hV] at hsz ⊢
  clear hV
  go_wp2_with (first | (go_at_call 48; refine (runOf_name _ _ (by unfold maxLen; omega)).mono ?_; rintro e w' ⟨rfl, rfl⟩; rw [HR.out]) | (go_at_call 64; rw [HV.out]; refine (clone_any _ _ hsz).mono ?_; rintro e w1 ⟨rfl, hb1⟩; have hx := (bx_new w [.int .i64 0, .string ⟨#[]⟩, .int .i64 0, .int .i64 0] 31).below (by simp) hb1; have HX := hidG hx; have HB1 : Hid (Below w.heap.size w w1) := (below_alloc _ _).trans (hb1.mono (by simp)); obtain ⟨c0, c1, c2, c3⟩ := hx.c4; have f0 := hx.frozen 0; have f1 := hx.frozen 1; have f2 := hx.frozen 2; have f3 := hx.frozen 3; clear hb1 hx) | go_in)
  have hx4 := ((((HX.out.set 0 (.int .i64 2)).set 1 (.string V)).set 2 (.int .i64 0)).set 3 (.int .i64 0))
  obtain ⟨e0, e1, e2, e3⟩ := hx4.c4
  refine bodyPost_ret (v := .tuple #[.agg #[.int .i64 2, .string V, .int .i64 0, .int .i64 0], .int .i64 (r : Nat)]) ?_ rfl ⟨rfl, ?_⟩
  · clear c0 c1 c2 c3 f0 f1 f2 f3
    simp [results, Tryd.results23, go_sem, e0, e1, e2, e3]
  · exact (((HB1.out.setCell (p := ⟨w.heap.size, 0, none⟩) (Nat.le_refl _) _).setCell (p := ⟨w.heap.size, 1, none⟩) (Nat.le_refl _) _).setCell (p := ⟨w.heap.size, 2, none⟩) (Nat.le_refl _) _).setCell (p := ⟨w.heap.size, 3, none⟩) (Nat.le_refl _) _
set_option maxRecDepth 100000 in
set_option maxHeartbeats 2000000 in
theorem scanBarred_yes (T U : ByteArray) (r : Nat) (w : World) (hs : T.size ≤ 50000) (hU : T.extract 1 (U.size + 1) = U) (hr : runL barB U.data.toList = r) (hrl : r < U.size) (hTU : T.size = U.size + 1) (hc : T[1 + r] = 124) :
    Calls Tryd.prog 47 #[.string T] w fun e w' => e = .returned (.tuple #[.agg #[.int .i64 2, .string (T.extract 1 (1 + r)), .int .i64 0, .int .i64 0], .int .i64 (1 + r + 1 : Nat)]) ∧ Below w.heap.size w w' := by
  have HU := hidG hU
  have HR := hidG hr
  have y1 : ((1 : Int) + (r : Int) == (U.size : Int) + 1) = false := by rw [beq_eq_false_iff_ne]; omega
  have y2 : ((T[1 + r].toNat : Int) == 124) = true := by rw [hc]; rfl
  have y3 : ((T[1 + r].toNat : Int) != 124) = false := by rw [hc]; rfl
  clear hU hr hc
  go_enter Tryd.func47, Tryd.ntmps47
  have hsz : (T.extract 1 (1 + r)).size ≤ 281474976710656 := by rw [ByteArray.size_extract]; omega
  obtain ⟨V, hV⟩ : ∃ V, T.extract 1 (1 + r) = V := ⟨_, rfl⟩
  have HV := hidG hV
  rw [hV] at hsz ⊢
  clear hV
  go_wp2_with (first | (go_at_call 48; rw [HU.out]; refine (runOf_bar _ _ (by unfold maxLen; omega)).mono ?_; rintro e w' ⟨rfl, rfl⟩; rw [HR.out]) | (go_at_call 64; rw [HV.out]; refine (clone_any _ _ hsz).mono ?_; rintro e w1 ⟨rfl, hb1⟩; have hx := (bx_new w [.int .i64 0, .string ⟨#[]⟩, .int .i64 0, .int .i64 0] 31).below (by simp) hb1; have HX := hidG hx; have HB1 : Hid (Below w.heap.size w w1) := (below_alloc _ _).trans (hb1.mono (by simp)); obtain ⟨c0, c1, c2, c3⟩ := hx.c4; have f0 := hx.frozen 0; have f1 := hx.frozen 1; have f2 := hx.frozen 2; have f3 := hx.frozen 3; clear hb1 hx) | go_in)
  have hx4 := ((((HX.out.set 0 (.int .i64 2)).set 1 (.string V)).set 2 (.int .i64 0)).set 3 (.int .i64 0))
  obtain ⟨e0, e1, e2, e3⟩ := hx4.c4
  refine bodyPost_ret (v := .tuple #[.agg #[.int .i64 2, .string V, .int .i64 0, .int .i64 0], .int .i64 (1 + r + 1 : Nat)]) ?_ rfl ⟨rfl, ?_⟩
  · clear c0 c1 c2 c3 f0 f1 f2 f3
    simp [results, Tryd.results47, go_sem, e0, e1, e2, e3]
  · exact (((HB1.out.setCell (p := ⟨w.heap.size, 0, none⟩) (Nat.le_refl _) _).setCell (p := ⟨w.heap.size, 1, none⟩) (Nat.le_refl _) _).setCell (p := ⟨w.heap.size, 2, none⟩) (Nat.le_refl _) _).setCell (p := ⟨w.heap.size, 3, none⟩) (Nat.le_refl _) _
set_option maxRecDepth 100000 in
set_option maxHeartbeats 2000000 in
theorem scanBarred_no (T U : ByteArray) (r : Nat) (w : World) (hs : T.size ≤ 50000) (hU : T.extract 1 (U.size + 1) = U) (hr : runL barB U.data.toList = r) (hrl : r < U.size) (hTU : T.size = U.size + 1) (hc : T[1 + r].toNat ≠ 124) :
    Calls Tryd.prog 47 #[.string T] w fun e w' => e = .returned (.tuple #[.agg #[.int .i64 0, .string ⟨#[]⟩, .int .i64 0, .int .i64 0], .int .i64 0]) ∧ Below w.heap.size w w' := by
  have HU := hidG hU
  have HR := hidG hr
  have y1 : ((1 : Int) + (r : Int) == (U.size : Int) + 1) = false := by rw [beq_eq_false_iff_ne]; omega
  have y2 : ((T[1 + r].toNat : Int) == 124) = false := by rw [beq_eq_false_iff_ne]; omega
  have y3 : ((T[1 + r].toNat : Int) != 124) = true := by rw [bne_iff_ne]; omega
  clear hU hr hc
  go_enter Tryd.func47, Tryd.ntmps47
  go_wp2_with (first | (go_at_call 48; rw [HU.out]; refine (runOf_bar _ _ (by unfold maxLen; omega)).mono ?_; rintro e w' ⟨rfl, rfl⟩; rw [HR.out]) | go_in)
  refine bodyPost_ret (v := .tuple #[.agg #[.int .i64 0, .string ⟨#[]⟩, .int .i64 0, .int .i64 0], .int .i64 0]) ?_ rfl ⟨rfl, below_alloc _ _⟩
  simp [results, Tryd.results47, go_sem]
set_option maxRecDepth 100000 in
set_option maxHeartbeats 2000000 in
theorem scanBarred_end (T U : ByteArray) (w : World) (hs : T.size ≤ 50000) (hU : T.extract 1 (U.size + 1) = U) (hr : runL barB U.data.toList = U.size) (hTU : T.size = U.size + 1) :
    Calls Tryd.prog 47 #[.string T] w fun e w' => e = .returned (.tuple #[.agg #[.int .i64 0, .string ⟨#[]⟩, .int .i64 0, .int .i64 0], .int .i64 0]) ∧ Below w.heap.size w w' := by
  have HU := hidG hU
  have HR := hidG hr
  have y1 : ((1 : Int) + (U.size : Int) == (U.size : Int) + 1) = true := by rw [beq_iff_eq]; omega
  clear hU hr
  go_enter Tryd.func47, Tryd.ntmps47
  go_wp2_with (first | (go_at_call 48; rw [HU.out]; refine (runOf_bar _ _ (by unfold maxLen; omega)).mono ?_; rintro e w' ⟨rfl, rfl⟩; rw [HR.out]) | go_in)
  refine bodyPost_ret (v := .tuple #[.agg #[.int .i64 0, .string ⟨#[]⟩, .int .i64 0, .int .i64 0], .int .i64 0]) ?_ rfl ⟨rfl, below_alloc _ _⟩
  simp [results, Tryd.results47, go_sem]
end Go.Proofs.YtdngpnlbhadbpaaDoor
