import Derived.Test.YtdngpnlbhadbpaaDoorTrSn
namespace Go.Proofs.YtdngpnlbhadbpaaDoor
open Go.ChangeShapes Go.WideShapes Go.ChangeAt Go.RowKit
set_option maxRecDepth 100000 in
set_option maxHeartbeats 2000000 in
theorem scanNode_scanText (T : ByteArray) (P : Int → ByteArray → Nat → Prop) (w : World)
    (h : ∀ w, Calls Tryd.prog 46 #[.string T] w fun e w' => (∃ k t n, P k t n ∧ e = resN k t n) ∧ Below w.heap.size w w') :
    Calls Tryd.prog 23 #[.int .i64 5, .string T] w fun e w' => (∃ k t n, P k t n ∧ e = resN k t n) ∧ Below w.heap.size w w' := by
  have H := hidG h
  clear h
  go_enter Tryd.func23, Tryd.ntmps23
  go_wp2_with (first | (go_at_call 46; refine (H.out _).mono ?_; rintro e w2 ⟨⟨k2, s2, n2, hk2, he⟩, hb2⟩; unfold resN at he; subst he; have HK2 := hidG hk2; clear hk2; have hx2 := (bx_new w [.int .i64 0, .string ⟨#[]⟩, .int .i64 0, .int .i64 0] 31).below (N := w.heap.size + 1) (by omega) (hb2.mono (by simp)); have HX2 := hidG hx2; have HB2 : Hid (Below w.heap.size w w2) := (below_alloc _ _).trans (hb2.mono (by simp)); obtain ⟨c0, c1, c2, c3⟩ := hx2.c4; have f0 := hx2.frozen 0; have f1 := hx2.frozen 1; have f2 := hx2.frozen 2; have f3 := hx2.frozen 3; clear hb2 hx2))
  have hx4 := ((((HX2.out.set 0 (.int .i64 k2)).set 1 (.string s2)).set 2 (.int .i64 0)).set 3 (.int .i64 0))
  obtain ⟨e0, e1, e2, e3⟩ := hx4.c4
  refine bodyPost_ret (v := .tuple #[.agg #[.int .i64 k2, .string s2, .int .i64 0, .int .i64 0], .int .i64 (n2 : Nat)]) ?_ rfl ⟨⟨k2, s2, n2, HK2.out, rfl⟩, ?_⟩
  · clear c0 c1 c2 c3 f0 f1 f2 f3
    simp [results, Tryd.results23, go_sem, e0, e1, e2, e3]
  · exact (((HB2.out.setCell (p := ⟨w.heap.size, 0, none⟩) (Nat.le_refl _) _).setCell (p := ⟨w.heap.size, 1, none⟩) (Nat.le_refl _) _).setCell (p := ⟨w.heap.size, 2, none⟩) (Nat.le_refl _) _).setCell (p := ⟨w.heap.size, 3, none⟩) (Nat.le_refl _) _
set_option maxRecDepth 100000 in
set_option maxHeartbeats 2000000 in
theorem scanNode_scanBarred (T : ByteArray) (P : Int → ByteArray → Nat → Prop) (w : World)
    (h : ∀ w, Calls Tryd.prog 47 #[.string T] w fun e w' => (∃ k t n, P k t n ∧ e = resN k t n) ∧ Below w.heap.size w w') :
    Calls Tryd.prog 23 #[.int .i64 6, .string T] w fun e w' => (∃ k t n, P k t n ∧ e = resN k t n) ∧ Below w.heap.size w w' := by
  have H := hidG h
  clear h
  go_enter Tryd.func23, Tryd.ntmps23
  go_wp2_with (first | (go_at_call 47; refine (H.out _).mono ?_; rintro e w2 ⟨⟨k2, s2, n2, hk2, he⟩, hb2⟩; unfold resN at he; subst he; have HK2 := hidG hk2; clear hk2; have hx2 := (bx_new w [.int .i64 0, .string ⟨#[]⟩, .int .i64 0, .int .i64 0] 31).below (N := w.heap.size + 1) (by omega) (hb2.mono (by simp)); have HX2 := hidG hx2; have HB2 : Hid (Below w.heap.size w w2) := (below_alloc _ _).trans (hb2.mono (by simp)); obtain ⟨c0, c1, c2, c3⟩ := hx2.c4; have f0 := hx2.frozen 0; have f1 := hx2.frozen 1; have f2 := hx2.frozen 2; have f3 := hx2.frozen 3; clear hb2 hx2))
  have hx4 := ((((HX2.out.set 0 (.int .i64 k2)).set 1 (.string s2)).set 2 (.int .i64 0)).set 3 (.int .i64 0))
  obtain ⟨e0, e1, e2, e3⟩ := hx4.c4
  refine bodyPost_ret (v := .tuple #[.agg #[.int .i64 k2, .string s2, .int .i64 0, .int .i64 0], .int .i64 (n2 : Nat)]) ?_ rfl ⟨⟨k2, s2, n2, HK2.out, rfl⟩, ?_⟩
  · clear c0 c1 c2 c3 f0 f1 f2 f3
    simp [results, Tryd.results23, go_sem, e0, e1, e2, e3]
  · exact (((HB2.out.setCell (p := ⟨w.heap.size, 0, none⟩) (Nat.le_refl _) _).setCell (p := ⟨w.heap.size, 1, none⟩) (Nat.le_refl _) _).setCell (p := ⟨w.heap.size, 2, none⟩) (Nat.le_refl _) _).setCell (p := ⟨w.heap.size, 3, none⟩) (Nat.le_refl _) _
set_option maxRecDepth 100000 in
set_option maxHeartbeats 2000000 in
theorem scanNode_scanBits (T : ByteArray) (P : Int → ByteArray → Nat → Prop) (w : World)
    (h : ∀ w, Calls Tryd.prog 50 #[.string T] w fun e w' => (∃ k t n, P k t n ∧ e = resN k t n) ∧ Below w.heap.size w w') :
    Calls Tryd.prog 23 #[.int .i64 8, .string T] w fun e w' => (∃ k t n, P k t n ∧ e = resN k t n) ∧ Below w.heap.size w w' := by
  have H := hidG h
  clear h
  go_enter Tryd.func23, Tryd.ntmps23
  go_wp2_with (first | (go_at_call 50; refine (H.out _).mono ?_; rintro e w2 ⟨⟨k2, s2, n2, hk2, he⟩, hb2⟩; unfold resN at he; subst he; have HK2 := hidG hk2; clear hk2; have hx2 := (bx_new w [.int .i64 0, .string ⟨#[]⟩, .int .i64 0, .int .i64 0] 31).below (N := w.heap.size + 1) (by omega) (hb2.mono (by simp)); have HX2 := hidG hx2; have HB2 : Hid (Below w.heap.size w w2) := (below_alloc _ _).trans (hb2.mono (by simp)); obtain ⟨c0, c1, c2, c3⟩ := hx2.c4; have f0 := hx2.frozen 0; have f1 := hx2.frozen 1; have f2 := hx2.frozen 2; have f3 := hx2.frozen 3; clear hb2 hx2))
  have hx4 := ((((HX2.out.set 0 (.int .i64 k2)).set 1 (.string s2)).set 2 (.int .i64 0)).set 3 (.int .i64 0))
  obtain ⟨e0, e1, e2, e3⟩ := hx4.c4
  refine bodyPost_ret (v := .tuple #[.agg #[.int .i64 k2, .string s2, .int .i64 0, .int .i64 0], .int .i64 (n2 : Nat)]) ?_ rfl ⟨⟨k2, s2, n2, HK2.out, rfl⟩, ?_⟩
  · clear c0 c1 c2 c3 f0 f1 f2 f3
    simp [results, Tryd.results23, go_sem, e0, e1, e2, e3]
  · exact (((HB2.out.setCell (p := ⟨w.heap.size, 0, none⟩) (Nat.le_refl _) _).setCell (p := ⟨w.heap.size, 1, none⟩) (Nat.le_refl _) _).setCell (p := ⟨w.heap.size, 2, none⟩) (Nat.le_refl _) _).setCell (p := ⟨w.heap.size, 3, none⟩) (Nat.le_refl _) _
set_option maxRecDepth 100000 in
set_option maxHeartbeats 2000000 in
theorem scanNode_scanNumber (T : ByteArray) (P : Int → ByteArray → Nat → Prop) (w : World)
    (h : ∀ w, Calls Tryd.prog 51 #[.string T] w fun e w' => (∃ k t n, P k t n ∧ e = resN k t n) ∧ Below w.heap.size w w') :
    Calls Tryd.prog 23 #[.int .i64 9, .string T] w fun e w' => (∃ k t n, P k t n ∧ e = resN k t n) ∧ Below w.heap.size w w' := by
  have H := hidG h
  clear h
  go_enter Tryd.func23, Tryd.ntmps23
  go_wp2_with (first | (go_at_call 51; refine (H.out _).mono ?_; rintro e w2 ⟨⟨k2, s2, n2, hk2, he⟩, hb2⟩; unfold resN at he; subst he; have HK2 := hidG hk2; clear hk2; have hx2 := (bx_new w [.int .i64 0, .string ⟨#[]⟩, .int .i64 0, .int .i64 0] 31).below (N := w.heap.size + 1) (by omega) (hb2.mono (by simp)); have HX2 := hidG hx2; have HB2 : Hid (Below w.heap.size w w2) := (below_alloc _ _).trans (hb2.mono (by simp)); obtain ⟨c0, c1, c2, c3⟩ := hx2.c4; have f0 := hx2.frozen 0; have f1 := hx2.frozen 1; have f2 := hx2.frozen 2; have f3 := hx2.frozen 3; clear hb2 hx2))
  have hx4 := ((((HX2.out.set 0 (.int .i64 k2)).set 1 (.string s2)).set 2 (.int .i64 0)).set 3 (.int .i64 0))
  obtain ⟨e0, e1, e2, e3⟩ := hx4.c4
  refine bodyPost_ret (v := .tuple #[.agg #[.int .i64 k2, .string s2, .int .i64 0, .int .i64 0], .int .i64 (n2 : Nat)]) ?_ rfl ⟨⟨k2, s2, n2, HK2.out, rfl⟩, ?_⟩
  · clear c0 c1 c2 c3 f0 f1 f2 f3
    simp [results, Tryd.results23, go_sem, e0, e1, e2, e3]
  · exact (((HB2.out.setCell (p := ⟨w.heap.size, 0, none⟩) (Nat.le_refl _) _).setCell (p := ⟨w.heap.size, 1, none⟩) (Nat.le_refl _) _).setCell (p := ⟨w.heap.size, 2, none⟩) (Nat.le_refl _) _).setCell (p := ⟨w.heap.size, 3, none⟩) (Nat.le_refl _) _
set_option maxRecDepth 100000 in
set_option maxHeartbeats 2000000 in
theorem scanNode_open (T : ByteArray) (w : World) :
    Calls Tryd.prog 23 #[.int .i64 4, .string T] w fun e w' => e = resN 1 ⟨#[]⟩ 1 ∧ Below w.heap.size w w' := by
  go_enter Tryd.func23, Tryd.ntmps23
  go_wp2_with fail
  refine bodyPost_ret (v := .tuple #[.agg #[.int .i64 1, .string ⟨#[]⟩, .int .i64 0, .int .i64 0], .int .i64 1]) ?_ rfl ⟨rfl, below_alloc _ _⟩
  simp [results, Tryd.results23, go_sem]
set_option maxRecDepth 100000 in
set_option maxHeartbeats 2000000 in
theorem scanNode_none (T : ByteArray) (w : World) :
    Calls Tryd.prog 23 #[.int .i64 0, .string T] w fun e w' => e = resN 0 ⟨#[]⟩ 0 ∧ Below w.heap.size w w' := by
  go_enter Tryd.func23, Tryd.ntmps23
  go_wp2_with fail
  refine bodyPost_ret (v := .tuple #[.agg #[.int .i64 0, .string ⟨#[]⟩, .int .i64 0, .int .i64 0], .int .i64 0]) ?_ rfl ⟨rfl, below_alloc _ _⟩
  simp [results, Tryd.results23, go_sem]
set_option maxRecDepth 100000 in
set_option maxHeartbeats 2000000 in
theorem scanNode_none1 (T : ByteArray) (w : World) :
    Calls Tryd.prog 23 #[.int .i64 1, .string T] w fun e w' => e = resN 0 ⟨#[]⟩ 0 ∧ Below w.heap.size w w' := by
  go_enter Tryd.func23, Tryd.ntmps23
  go_wp2_with fail
  refine bodyPost_ret (v := .tuple #[.agg #[.int .i64 0, .string ⟨#[]⟩, .int .i64 0, .int .i64 0], .int .i64 0]) ?_ rfl ⟨rfl, below_alloc _ _⟩
  simp [results, Tryd.results23, go_sem]
set_option maxRecDepth 100000 in
set_option maxHeartbeats 2000000 in
theorem scanNode_none2 (T : ByteArray) (w : World) :
    Calls Tryd.prog 23 #[.int .i64 2, .string T] w fun e w' => e = resN 0 ⟨#[]⟩ 0 ∧ Below w.heap.size w w' := by
  go_enter Tryd.func23, Tryd.ntmps23
  go_wp2_with fail
  refine bodyPost_ret (v := .tuple #[.agg #[.int .i64 0, .string ⟨#[]⟩, .int .i64 0, .int .i64 0], .int .i64 0]) ?_ rfl ⟨rfl, below_alloc _ _⟩
  simp [results, Tryd.results23, go_sem]
set_option maxRecDepth 100000 in
set_option maxHeartbeats 2000000 in
theorem scanNode_none3 (T : ByteArray) (w : World) :
    Calls Tryd.prog 23 #[.int .i64 3, .string T] w fun e w' => e = resN 0 ⟨#[]⟩ 0 ∧ Below w.heap.size w w' := by
  go_enter Tryd.func23, Tryd.ntmps23
  go_wp2_with fail
  refine bodyPost_ret (v := .tuple #[.agg #[.int .i64 0, .string ⟨#[]⟩, .int .i64 0, .int .i64 0], .int .i64 0]) ?_ rfl ⟨rfl, below_alloc _ _⟩
  simp [results, Tryd.results23, go_sem]
end Go.Proofs.YtdngpnlbhadbpaaDoor
