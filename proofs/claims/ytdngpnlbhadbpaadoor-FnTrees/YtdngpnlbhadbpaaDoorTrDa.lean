import Derived.Test.YtdngpnlbhadbpaaDoorTrCu
import Derived.Deep.RegionHeld3
namespace Go.Proofs.YtdngpnlbhadbpaaDoor
open Go.ChangeShapes Go.WideShapes Go.ChangeAt Go.RowKit
theorem pickX_any (g N k n : Nat) (x : Int) (w : World) (h : IsCur g N w k) (hx : x = (n : Nat)) (hk : k ≤ 100000000000) (hn : 0 < n) (hn2 : n ≤ 65536) :
    Calls Tryd.prog 30 #[.pointer (some ⟨g, 0, none⟩), .int .i64 x] w fun e w' => ∃ r k' : Nat, e = .returned (.int .i64 (r : Nat)) ∧ r < n ∧ k' ≤ k + 2 ∧ IsCur g N w' k' ∧ Bar g w w' := by
  subst hx; exact pick_any g N k n w h hk hn hn2
def shortS (v : Value) : Bool := match v with | .string u => decide (u.size ≤ 20) | _ => false
theorem str_at {W : World} {b : Nat} {L : List Value} (h : Bx W b L) (hs : L.all shortS = true) {r : Nat} (hr : r < L.length) : ∃ u : ByteArray, W.cell? ⟨b, r, none⟩ = some (.string u) ∧ u.size ≤ 20 := by
  have hc := h.cell r
  rw [List.getElem?_eq_getElem hr] at hc
  rw [List.all_eq_true] at hs
  have := hs _ (List.getElem_mem hr)
  rw [hc]
  generalize L[r] = v at this
  cases v <;> simp [shortS] at this
  rename_i u
  exact ⟨u, rfl, this⟩
theorem IsCur.lt {g N k : Nat} {w : World} (h : IsCur g N w k) : g < w.heap.size := Nat.lt_of_lt_of_le h.1 h.2.1
set_option maxRecDepth 100000 in
set_option maxHeartbeats 2000000 in
theorem name_any (g N k : Nat) (w : World) (h : IsCur g N w k) (hk : k ≤ 1000000000) :
    Calls Tryd.prog 69 #[.pointer (some ⟨g, 0, none⟩)] w fun e w' => ∃ (u : ByteArray) (k' : Nat), e = .returned (.string u) ∧ u.size ≤ 20 ∧ k' ≤ k + 2 ∧ IsCur g N w' k' ∧ Bar g w w' := by
  have HC := hidG h
  have hgl := h.lt
  clear h
  go_enter Tryd.func69, Tryd.ntmps69
  go_wp2_with fail
  refine (pickX_any g N k 18 _ _ (HC.out.below ((below_alloc w _).mono HC.out.2.1)) rfl (by omega) (by decide) (by decide)).mono ?_
  rintro e w1 ⟨r, k1, rfl, hr, hk1, hc1, hb1⟩
  have HC1 := hidG hc1
  have HB1 : Hid (Bar g w w1) := (Bar.of (below_alloc w _)).trans hb1
  obtain ⟨u, hu, hus⟩ := str_at ((bx_new w [.string ⟨#[97]⟩, .string ⟨#[98]⟩, .string ⟨#[120]⟩, .string ⟨#[121]⟩, .string ⟨#[102]⟩, .string ⟨#[112, 49]⟩, .string ⟨#[60, 61]⟩, .string ⟨#[45]⟩, .string ⟨#[43, 120]⟩, .string ⟨#[97, 32, 98]⟩, .string ⟨#[]⟩, .string ⟨#[40]⟩, .string ⟨#[108, 101, 116]⟩, .string ⟨#[120, 46, 121]⟩, .string ⟨#[53]⟩, .string ⟨#[98, 118, 97, 100, 100]⟩, .string ⟨#[64, 49]⟩, .string ⟨#[65, 59]⟩] 9).bar hb1 (by omega)) (by decide) (r := r) hr
  have HUS := hidG hus
  clear hc1 hb1 hus
  go_wp2_with fail
  go_ret
  exact ⟨u, k1, rfl, HUS.out, hk1, HC1.out, HB1.out⟩
theorem Bar.then4 {g : Nat} {w a b : World} (h : Bar g w a) (k : Below w.heap.size a b) : Bar g w b := h.then k
set_option maxRecDepth 100000 in
set_option maxHeartbeats 4000000 in
theorem leaf_any (g N k : Nat) (w : World) (h : IsCur g N w k) (hk : k ≤ 100000000) :
    Calls Tryd.prog 53 #[.pointer (some ⟨g, 0, none⟩)] w fun e w' => ∃ (kd : Int) (u : ByteArray) (k' : Nat), e = .returned (.agg #[.int .i64 kd, .string u, .int .i64 0, .int .i64 0]) ∧ u.size ≤ 20 ∧ k' ≤ k + 4 ∧ IsCur g N w' k' ∧ Bar g w w' := by
  have HC := hidG h
  have hgl := h.lt
  have HNW := hidG h.2.1
  clear h
  go_enter Tryd.func53, Tryd.ntmps53
  go_wp2_with fail
  refine (pickX_any g N k 9 _ _ (HC.out.below ((below_alloc w _).mono HC.out.2.1)) rfl (by omega) (by decide) (by decide)).mono ?_
  rintro e w1 ⟨r, k1, rfl, hr, hk1, hc1, hb1⟩
  have HC1 := hidG hc1
  have HB1 : Hid (Bar g w w1) := (Bar.of (below_alloc w _)).trans hb1
  have HX1 := hidG ((bx_new w [.int .i64 0, .string ⟨#[]⟩, .int .i64 0, .int .i64 0] 31).bar hb1 (by omega))
  have hl1 := HC1.out.lt
  have hw1 := HX1.out.lt
  clear hc1 hb1
  have hcase : r = 0 ∨ r = 1 ∨ r = 2 ∨ r = 3 ∨ r = 4 ∨ 5 ≤ r := by omega
  rcases hcase with hr0 | hr0 | hr0 | hr0 | hr0 | hr5
  · subst hr0
    clear hr
    go_wp2_with fail
    refine (pickX_any g N k1 4 _ _ (HC1.out.below ((below_alloc w1 _).mono HC1.out.2.1)) rfl (by omega) (by decide) (by decide)).mono ?_
    rintro e w2 ⟨r, k2, rfl, hr, hk2, hc2, hb2⟩
    have HC2 := hidG hc2
    have HB2 : Hid (Bar g w w2) := (HB1.out.trans (Bar.of (below_alloc w1 _))).trans hb2
    obtain ⟨u, hu, hus⟩ := str_at ((bx_new w1 [.string ⟨#[48]⟩, .string ⟨#[55]⟩, .string ⟨#[49, 50]⟩, .string ⟨#[51, 48, 53]⟩] 9).bar hb2 (by omega)) (by decide) (r := r) hr
    have HUS := hidG hus
    have hx2 := (HX1.out.alloc (.cells #[.string ⟨#[48]⟩, .string ⟨#[55]⟩, .string ⟨#[49, 50]⟩, .string ⟨#[51, 48, 53]⟩] 9)).bar hb2 (by omega)
    have HX2 := hidG hx2
    obtain ⟨c0, c1, c2, c3⟩ := hx2.c4
    have f0 := hx2.frozen 0
    have f1 := hx2.frozen 1
    have f2 := hx2.frozen 2
    have f3 := hx2.frozen 3
    have hlz := HX1.out.lt
    clear hc2 hb2 hus hx2
    go_wp2_with fail
    have hx4 := ((((HX2.out.set 0 (.int .i64 3)).set 1 (.string u)).set 2 (.int .i64 0)).set 3 (.int .i64 0))
    obtain ⟨e0, e1, e2, e3⟩ := hx4.c4
    refine bodyPost_ret (v := .agg #[.int .i64 3, .string u, .int .i64 0, .int .i64 0]) ?_ rfl ⟨3, u, k2, rfl, HUS.out, by omega, HC2.out.below ?_, HB2.out.then4 ?_⟩
    · clear c0 c1 c2 c3 f0 f1 f2 f3
      simp [results, Tryd.results53, go_sem, e0, e1, e2, e3]
    · exact ((((Below.refl N _).setCell (p := ⟨w.heap.size, 0, none⟩) HNW.out _).setCell (p := ⟨w.heap.size, 1, none⟩) HNW.out _).setCell (p := ⟨w.heap.size, 2, none⟩) HNW.out _).setCell (p := ⟨w.heap.size, 3, none⟩) HNW.out _
    · exact ((((Below.refl w.heap.size _).setCell (p := ⟨w.heap.size, 0, none⟩) (Nat.le_refl _) _).setCell (p := ⟨w.heap.size, 1, none⟩) (Nat.le_refl _) _).setCell (p := ⟨w.heap.size, 2, none⟩) (Nat.le_refl _) _).setCell (p := ⟨w.heap.size, 3, none⟩) (Nat.le_refl _) _
  · subst hr0
    clear hr
    go_wp2_with fail
    refine (pickX_any g N k1 3 _ _ (HC1.out.below ((below_alloc w1 _).mono HC1.out.2.1)) rfl (by omega) (by decide) (by decide)).mono ?_
    rintro e w2 ⟨r, k2, rfl, hr, hk2, hc2, hb2⟩
    have HC2 := hidG hc2
    have HB2 : Hid (Bar g w w2) := (HB1.out.trans (Bar.of (below_alloc w1 _))).trans hb2
    obtain ⟨u, hu, hus⟩ := str_at ((bx_new w1 [.string ⟨#[48, 46, 48]⟩, .string ⟨#[49, 46, 53, 48]⟩, .string ⟨#[49, 50, 46, 48, 48, 55]⟩] 9).bar hb2 (by omega)) (by decide) (r := r) hr
    have HUS := hidG hus
    have hx2 := (HX1.out.alloc (.cells #[.string ⟨#[48, 46, 48]⟩, .string ⟨#[49, 46, 53, 48]⟩, .string ⟨#[49, 50, 46, 48, 48, 55]⟩] 9)).bar hb2 (by omega)
    have HX2 := hidG hx2
    obtain ⟨c0, c1, c2, c3⟩ := hx2.c4
    have f0 := hx2.frozen 0
    have f1 := hx2.frozen 1
    have f2 := hx2.frozen 2
    have f3 := hx2.frozen 3
    have hlz := HX1.out.lt
    clear hc2 hb2 hus hx2
    go_wp2_with fail
    have hx4 := ((((HX2.out.set 0 (.int .i64 4)).set 1 (.string u)).set 2 (.int .i64 0)).set 3 (.int .i64 0))
    obtain ⟨e0, e1, e2, e3⟩ := hx4.c4
    refine bodyPost_ret (v := .agg #[.int .i64 4, .string u, .int .i64 0, .int .i64 0]) ?_ rfl ⟨4, u, k2, rfl, HUS.out, by omega, HC2.out.below ?_, HB2.out.then4 ?_⟩
    · clear c0 c1 c2 c3 f0 f1 f2 f3
      simp [results, Tryd.results53, go_sem, e0, e1, e2, e3]
    · exact ((((Below.refl N _).setCell (p := ⟨w.heap.size, 0, none⟩) HNW.out _).setCell (p := ⟨w.heap.size, 1, none⟩) HNW.out _).setCell (p := ⟨w.heap.size, 2, none⟩) HNW.out _).setCell (p := ⟨w.heap.size, 3, none⟩) HNW.out _
    · exact ((((Below.refl w.heap.size _).setCell (p := ⟨w.heap.size, 0, none⟩) (Nat.le_refl _) _).setCell (p := ⟨w.heap.size, 1, none⟩) (Nat.le_refl _) _).setCell (p := ⟨w.heap.size, 2, none⟩) (Nat.le_refl _) _).setCell (p := ⟨w.heap.size, 3, none⟩) (Nat.le_refl _) _
  · subst hr0
    clear hr
    go_wp2_with fail
    refine (pickX_any g N k1 3 _ _ (HC1.out.below ((below_alloc w1 _).mono HC1.out.2.1)) rfl (by omega) (by decide) (by decide)).mono ?_
    rintro e w2 ⟨r, k2, rfl, hr, hk2, hc2, hb2⟩
    have HC2 := hidG hc2
    have HB2 : Hid (Bar g w w2) := (HB1.out.trans (Bar.of (below_alloc w1 _))).trans hb2
    obtain ⟨u, hu, hus⟩ := str_at ((bx_new w1 [.string ⟨#[48]⟩, .string ⟨#[49, 48, 49, 49]⟩, .string ⟨#[49, 49, 49, 49, 48, 48, 48, 48]⟩] 9).bar hb2 (by omega)) (by decide) (r := r) hr
    have HUS := hidG hus
    have hx2 := (HX1.out.alloc (.cells #[.string ⟨#[48]⟩, .string ⟨#[49, 48, 49, 49]⟩, .string ⟨#[49, 49, 49, 49, 48, 48, 48, 48]⟩] 9)).bar hb2 (by omega)
    have HX2 := hidG hx2
    obtain ⟨c0, c1, c2, c3⟩ := hx2.c4
    have f0 := hx2.frozen 0
    have f1 := hx2.frozen 1
    have f2 := hx2.frozen 2
    have f3 := hx2.frozen 3
    have hlz := HX1.out.lt
    clear hc2 hb2 hus hx2
    go_wp2_with fail
    have hx4 := ((((HX2.out.set 0 (.int .i64 5)).set 1 (.string u)).set 2 (.int .i64 0)).set 3 (.int .i64 0))
    obtain ⟨e0, e1, e2, e3⟩ := hx4.c4
    refine bodyPost_ret (v := .agg #[.int .i64 5, .string u, .int .i64 0, .int .i64 0]) ?_ rfl ⟨5, u, k2, rfl, HUS.out, by omega, HC2.out.below ?_, HB2.out.then4 ?_⟩
    · clear c0 c1 c2 c3 f0 f1 f2 f3
      simp [results, Tryd.results53, go_sem, e0, e1, e2, e3]
    · exact ((((Below.refl N _).setCell (p := ⟨w.heap.size, 0, none⟩) HNW.out _).setCell (p := ⟨w.heap.size, 1, none⟩) HNW.out _).setCell (p := ⟨w.heap.size, 2, none⟩) HNW.out _).setCell (p := ⟨w.heap.size, 3, none⟩) HNW.out _
    · exact ((((Below.refl w.heap.size _).setCell (p := ⟨w.heap.size, 0, none⟩) (Nat.le_refl _) _).setCell (p := ⟨w.heap.size, 1, none⟩) (Nat.le_refl _) _).setCell (p := ⟨w.heap.size, 2, none⟩) (Nat.le_refl _) _).setCell (p := ⟨w.heap.size, 3, none⟩) (Nat.le_refl _) _
  · subst hr0
    clear hr
    go_wp2_with fail
    refine (pickX_any g N k1 4 _ _ (HC1.out.below ((below_alloc w1 _).mono HC1.out.2.1)) rfl (by omega) (by decide) (by decide)).mono ?_
    rintro e w2 ⟨r, k2, rfl, hr, hk2, hc2, hb2⟩
    have HC2 := hidG hc2
    have HB2 : Hid (Bar g w w2) := (HB1.out.trans (Bar.of (below_alloc w1 _))).trans hb2
    obtain ⟨u, hu, hus⟩ := str_at ((bx_new w1 [.string ⟨#[]⟩, .string ⟨#[115, 97, 121, 32, 34, 105, 116, 34]⟩, .string ⟨#[116, 119, 111, 10, 108, 105, 110, 101, 115]⟩, .string ⟨#[34]⟩] 9).bar hb2 (by omega)) (by decide) (r := r) hr
    have HUS := hidG hus
    have hx2 := (HX1.out.alloc (.cells #[.string ⟨#[]⟩, .string ⟨#[115, 97, 121, 32, 34, 105, 116, 34]⟩, .string ⟨#[116, 119, 111, 10, 108, 105, 110, 101, 115]⟩, .string ⟨#[34]⟩] 9)).bar hb2 (by omega)
    have HX2 := hidG hx2
    obtain ⟨c0, c1, c2, c3⟩ := hx2.c4
    have f0 := hx2.frozen 0
    have f1 := hx2.frozen 1
    have f2 := hx2.frozen 2
    have f3 := hx2.frozen 3
    have hlz := HX1.out.lt
    clear hc2 hb2 hus hx2
    go_wp2_with fail
    have hx4 := ((((HX2.out.set 0 (.int .i64 6)).set 1 (.string u)).set 2 (.int .i64 0)).set 3 (.int .i64 0))
    obtain ⟨e0, e1, e2, e3⟩ := hx4.c4
    refine bodyPost_ret (v := .agg #[.int .i64 6, .string u, .int .i64 0, .int .i64 0]) ?_ rfl ⟨6, u, k2, rfl, HUS.out, by omega, HC2.out.below ?_, HB2.out.then4 ?_⟩
    · clear c0 c1 c2 c3 f0 f1 f2 f3
      simp [results, Tryd.results53, go_sem, e0, e1, e2, e3]
    · exact ((((Below.refl N _).setCell (p := ⟨w.heap.size, 0, none⟩) HNW.out _).setCell (p := ⟨w.heap.size, 1, none⟩) HNW.out _).setCell (p := ⟨w.heap.size, 2, none⟩) HNW.out _).setCell (p := ⟨w.heap.size, 3, none⟩) HNW.out _
    · exact ((((Below.refl w.heap.size _).setCell (p := ⟨w.heap.size, 0, none⟩) (Nat.le_refl _) _).setCell (p := ⟨w.heap.size, 1, none⟩) (Nat.le_refl _) _).setCell (p := ⟨w.heap.size, 2, none⟩) (Nat.le_refl _) _).setCell (p := ⟨w.heap.size, 3, none⟩) (Nat.le_refl _) _
  · subst hr0
    clear hr
    go_wp2_with fail
    refine (pickX_any g N k1 3 _ _ (HC1.out.below ((below_alloc w1 _).mono HC1.out.2.1)) rfl (by omega) (by decide) (by decide)).mono ?_
    rintro e w2 ⟨r, k2, rfl, hr, hk2, hc2, hb2⟩
    have HC2 := hidG hc2
    have HB2 : Hid (Bar g w w2) := (HB1.out.trans (Bar.of (below_alloc w1 _))).trans hb2
    obtain ⟨u, hu, hus⟩ := str_at ((bx_new w1 [.string ⟨#[110, 97, 109, 101, 100]⟩, .string ⟨#[107, 49]⟩, .string ⟨#[45]⟩] 9).bar hb2 (by omega)) (by decide) (r := r) hr
    have HUS := hidG hus
    have hx2 := (HX1.out.alloc (.cells #[.string ⟨#[110, 97, 109, 101, 100]⟩, .string ⟨#[107, 49]⟩, .string ⟨#[45]⟩] 9)).bar hb2 (by omega)
    have HX2 := hidG hx2
    obtain ⟨c0, c1, c2, c3⟩ := hx2.c4
    have f0 := hx2.frozen 0
    have f1 := hx2.frozen 1
    have f2 := hx2.frozen 2
    have f3 := hx2.frozen 3
    have hlz := HX1.out.lt
    clear hc2 hb2 hus hx2
    go_wp2_with fail
    have hx4 := ((((HX2.out.set 0 (.int .i64 7)).set 1 (.string u)).set 2 (.int .i64 0)).set 3 (.int .i64 0))
    obtain ⟨e0, e1, e2, e3⟩ := hx4.c4
    refine bodyPost_ret (v := .agg #[.int .i64 7, .string u, .int .i64 0, .int .i64 0]) ?_ rfl ⟨7, u, k2, rfl, HUS.out, by omega, HC2.out.below ?_, HB2.out.then4 ?_⟩
    · clear c0 c1 c2 c3 f0 f1 f2 f3
      simp [results, Tryd.results53, go_sem, e0, e1, e2, e3]
    · exact ((((Below.refl N _).setCell (p := ⟨w.heap.size, 0, none⟩) HNW.out _).setCell (p := ⟨w.heap.size, 1, none⟩) HNW.out _).setCell (p := ⟨w.heap.size, 2, none⟩) HNW.out _).setCell (p := ⟨w.heap.size, 3, none⟩) HNW.out _
    · exact ((((Below.refl w.heap.size _).setCell (p := ⟨w.heap.size, 0, none⟩) (Nat.le_refl _) _).setCell (p := ⟨w.heap.size, 1, none⟩) (Nat.le_refl _) _).setCell (p := ⟨w.heap.size, 2, none⟩) (Nat.le_refl _) _).setCell (p := ⟨w.heap.size, 3, none⟩) (Nat.le_refl _) _
  · have z0 : ((r : Int) == 0) = false := by rw [beq_eq_false_iff_ne]; omega
    have z1 : ((r : Int) == 1) = false := by rw [beq_eq_false_iff_ne]; omega
    have z2 : ((r : Int) == 2) = false := by rw [beq_eq_false_iff_ne]; omega
    have z3 : ((r : Int) == 3) = false := by rw [beq_eq_false_iff_ne]; omega
    have z4 : ((r : Int) == 4) = false := by rw [beq_eq_false_iff_ne]; omega
    go_wp2_with fail
    refine (name_any g N k1 _ HC1.out (by omega)).mono ?_
    rintro e w2 ⟨u, k2, rfl, hus, hk2, hc2, hb2⟩
    have HC2 := hidG hc2
    have HB2 : Hid (Bar g w w2) := HB1.out.trans hb2
    have HUS := hidG hus
    have hx2 := HX1.out.bar hb2 (by omega)
    have HX2 := hidG hx2
    obtain ⟨c0, c1, c2, c3⟩ := hx2.c4
    have f0 := hx2.frozen 0
    have f1 := hx2.frozen 1
    have f2 := hx2.frozen 2
    have f3 := hx2.frozen 3
    clear hc2 hb2 hus hx2
    go_wp2_with fail
    have hx4 := ((((HX2.out.set 0 (.int .i64 2)).set 1 (.string u)).set 2 (.int .i64 0)).set 3 (.int .i64 0))
    obtain ⟨e0, e1, e2, e3⟩ := hx4.c4
    refine bodyPost_ret (v := .agg #[.int .i64 2, .string u, .int .i64 0, .int .i64 0]) ?_ rfl ⟨2, u, k2, rfl, HUS.out, by omega, HC2.out.below ?_, HB2.out.then4 ?_⟩
    · clear c0 c1 c2 c3 f0 f1 f2 f3
      simp [results, Tryd.results53, go_sem, e0, e1, e2, e3]
    · exact ((((Below.refl N _).setCell (p := ⟨w.heap.size, 0, none⟩) HNW.out _).setCell (p := ⟨w.heap.size, 1, none⟩) HNW.out _).setCell (p := ⟨w.heap.size, 2, none⟩) HNW.out _).setCell (p := ⟨w.heap.size, 3, none⟩) HNW.out _
    · exact ((((Below.refl w.heap.size _).setCell (p := ⟨w.heap.size, 0, none⟩) (Nat.le_refl _) _).setCell (p := ⟨w.heap.size, 1, none⟩) (Nat.le_refl _) _).setCell (p := ⟨w.heap.size, 2, none⟩) (Nat.le_refl _) _).setCell (p := ⟨w.heap.size, 3, none⟩) (Nat.le_refl _) _
end Go.Proofs.YtdngpnlbhadbpaaDoor
