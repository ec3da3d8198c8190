import Derived.Test.YtpjnglcojamfmaaGreatDoorAddS
namespace Go.Proofs.YtpjnglcojamfmaaGreatDoor
open Go.ChangeShapes Go.WideShapes Go.ChangeAt Go.RowKit
theorem isN_small (B : Nat) (w : World) (x : Int) (h1 : -1000000000000000000 < x) (h2 : x < 1000000000000000000) : IsN B w (.agg #[.int .i64 x, .bool false, .slice none 0 0]) x := by
  have e0 : sg (decide (x < 0)) (val (two x.natAbs)) = x := by
    rw [two_val]
    unfold sg
    by_cases h : x < 0 <;> simp [h] <;> omega
  exact ⟨decide (x < 0), two x.natAbs, ⟨two_ok _ (by omega), two_trim _, .inr ⟨two_len _, by rw [e0]⟩⟩, e0⟩
theorem l1Abs64_any (x : Int) (w : World) (h1 : -1000000000000000000 < x) (h2 : x < 1000000000000000000) :
    Calls Tryz.prog 106 #[.int .i64 x] w fun e w' => e = .returned (.int .i64 (x.natAbs : Nat)) ∧ w' = w := by
  by_cases h : x < 0
  · have HX : Hid ((x.natAbs : Int) = -x) := by show (x.natAbs : Int) = -x; omega
    go_enter Tryz.func106, Tryz.ntmps106
    go_wp2
    go_ret
    exact ⟨ret_int HX.out.symm, rfl⟩
  · have HX : Hid ((x.natAbs : Int) = x) := by show (x.natAbs : Int) = x; omega
    go_enter Tryz.func106, Tryz.ntmps106
    go_wp2
    go_ret
    exact ⟨ret_int HX.out.symm, rfl⟩
set_option maxRecDepth 100000 in
set_option maxHeartbeats 1000000 in
theorem l1Mul_small (x y : Int) (w : World) (hx1 : -1000000000000000000 < x) (hx2 : x < 1000000000000000000) (hy1 : -1000000000000000000 < y) (hy2 : y < 1000000000000000000) (hs : x.natAbs = 0 ∨ x.natAbs ≠ 0 ∧ y.natAbs ≤ 999999999999999999 / x.natAbs) :
    Calls Tryz.prog 52 #[.agg #[.int .i64 x, .bool false, .slice none 0 0], .agg #[.int .i64 y, .bool false, .slice none 0 0]] w fun e w' => ∃ z, e = .returned z ∧ IsN w.heap.size w' z (x * y) ∧ Below w.heap.size w w' := by
  have HP : Hid (-1000000000000000000 < x * y ∧ x * y < 1000000000000000000) := by
    have h : (x * y).natAbs < 1000000000000000000 := by
      rw [Int.natAbs_mul]
      rcases hs with h0 | ⟨h0, h⟩
      · rw [h0, Nat.zero_mul]; omega
      · have h3 : x.natAbs * y.natAbs ≤ x.natAbs * (999999999999999999 / x.natAbs) := Nat.mul_le_mul_left _ h
        have h4 := Nat.mul_div_le 999999999999999999 x.natAbs
        omega
    show -1000000000000000000 < x * y ∧ x * y < 1000000000000000000
    omega
  obtain ⟨p1, p2⟩ := HP.out
  have HXX : Hid (-1000000000000000000 < x ∧ x < 1000000000000000000) := ⟨hx1, hx2⟩
  have HYY : Hid (-1000000000000000000 < y ∧ y < 1000000000000000000) := ⟨hy1, hy2⟩
  have HX := boxes_first w x false none 0 0 y false none 0 0 55
  obtain ⟨W0, hW0⟩ : ∃ W0, (((w.alloc (.cells #[.int .i64 x, .bool false, .slice none 0 0] 55)).alloc (.cells #[.int .i64 y, .bool false, .slice none 0 0] 55)).alloc (.cells #[.int .i64 0, .bool false, .slice none 0 0] 55)) = W0 := ⟨_, rfl⟩
  have HW0 : Hid ((((w.alloc (.cells #[.int .i64 x, .bool false, .slice none 0 0] 55)).alloc (.cells #[.int .i64 y, .bool false, .slice none 0 0] 55)).alloc (.cells #[.int .i64 0, .bool false, .slice none 0 0] 55)) = W0) := hW0
  have HB0 : Hid (Below w.heap.size w W0) := by rw [← hW0]; exact below_al (below_al (below_alloc _ _) _) _
  have hsz : W0.heap.size = w.heap.size + 3 := by rw [← hW0]; simp
  have hlt0 : w.heap.size < W0.heap.size := by omega
  have hlt1 : w.heap.size + 1 < W0.heap.size := by omega
  have hlt2 : w.heap.size + 2 < W0.heap.size := by omega
  rw [hW0] at HX
  have HS : Hid (W0.heap.size = w.heap.size + 3) := hsz
  obtain ⟨a0, a1, a2, b0, b1, b2, r0, r1, r2, f0, f1, f2⟩ := HX
  obtain ⟨X, hX⟩ : ∃ X : Int, (x.natAbs : Int) = X := ⟨_, rfl⟩
  obtain ⟨Y, hY⟩ : ∃ Y : Int, (y.natAbs : Int) = Y := ⟨_, rfl⟩
  have HXE : Hid ((x.natAbs : Int) = X) := hX
  have HYE : Hid ((y.natAbs : Int) = Y) := hY
  have hs' : X = 0 ∨ 0 < X ∧ Y ≤ 999999999999999999 / X := by
    rcases hs with h | ⟨h, h2⟩
    · left; omega
    · right
      refine ⟨by omega, ?_⟩
      rw [Int.le_ediv_iff_mul_le (by omega)]
      have h3 := (Nat.le_div_iff_mul_le (by omega)).1 h2
      have h4 : ((y.natAbs * x.natAbs : Nat) : Int) = Y * X := by rw [Int.natCast_mul, hX, hY]
      omega
  have hX0 : 0 ≤ X := by omega
  have hX2 : X < 1000000000000000000 := by omega
  have hY0 : 0 ≤ Y := by omega
  have hY2 : Y < 1000000000000000000 := by omega
  clear hW0 hsz hs hX hY hx1 hx2 hy1 hy2
  go_enter Tryz.func52, Tryz.ntmps52
  go_wp2_with fail
  rw [HW0.out]
  refine (l1IsSmall_ex _ _ _ _ _ _).mono ?_
  rintro e w' ⟨rfl, rfl⟩
  rcases hs' with hs | ⟨hs, hs2⟩
  · subst hs
    go_wp2_with (first
      | (go_at_call 97; refine (l1IsSmall_ex _ _ _ _ _ _).mono ?_; rintro e w' ⟨rfl, rfl⟩)
      | (go_at_call_of 106 (Value.int IntKind.i64 x); refine (l1Abs64_any _ _ HXX.out.1 HXX.out.2).mono ?_; rintro e w' ⟨rfl, rfl⟩; rw [HXE.out])
      | (go_at_call_of 106 (Value.int IntKind.i64 y); refine (l1Abs64_any _ _ HYY.out.1 HYY.out.2).mono ?_; rintro e w' ⟨rfl, rfl⟩; rw [HYE.out]))
    have hb3 := ((HB0.out.setCell (p := ⟨w.heap.size + 1 + 1, 0, none⟩) (by simp; omega) (.int .i64 (x * y))).setCell (p := ⟨w.heap.size + 1 + 1, 1, none⟩) (by simp; omega) (.bool false)).setCell (p := ⟨w.heap.size + 1 + 1, 2, none⟩) (by simp; omega) (.slice none 0 0)
    refine bodyPost_ret ?_ rfl ⟨_, rfl, isN_small _ _ (x * y) HP.out.1 HP.out.2, (hb3.alloc (by have := HS.out; simp; omega) _).alloc (by have := HS.out; simp; omega) _⟩
    have e : ∀ i o1 o2, (((((W0.setCell ⟨w.heap.size + 1 + 1, 0, none⟩ (.int .i64 (x * y))).setCell ⟨w.heap.size + 1 + 1, 1, none⟩ (.bool false)).setCell ⟨w.heap.size + 1 + 1, 2, none⟩ (.slice none 0 0)).alloc o1).alloc o2).cell? ⟨w.heap.size + 1 + 1, i, none⟩ = (((W0.setCell ⟨w.heap.size + 1 + 1, 0, none⟩ (.int .i64 (x * y))).setCell ⟨w.heap.size + 1 + 1, 1, none⟩ (.bool false)).setCell ⟨w.heap.size + 1 + 1, 2, none⟩ (.slice none 0 0)).cell? ⟨w.heap.size + 1 + 1, i, none⟩ := fun i o1 o2 => by
      rw [World.cell?_alloc_past _ _ _ (by simp; omega), World.cell?_alloc_past _ _ _ (by simp; omega)]
    simp [results, Tryz.results52, go_sem, e, r0, r1, r2]
  · go_wp2_with (first
      | (go_at_call 97; refine (l1IsSmall_ex _ _ _ _ _ _).mono ?_; rintro e w' ⟨rfl, rfl⟩)
      | (go_at_call_of 106 (Value.int IntKind.i64 x); refine (l1Abs64_any _ _ HXX.out.1 HXX.out.2).mono ?_; rintro e w' ⟨rfl, rfl⟩; rw [HXE.out])
      | (go_at_call_of 106 (Value.int IntKind.i64 y); refine (l1Abs64_any _ _ HYY.out.1 HYY.out.2).mono ?_; rintro e w' ⟨rfl, rfl⟩; rw [HYE.out]))
    have hb3 := ((HB0.out.setCell (p := ⟨w.heap.size + 1 + 1, 0, none⟩) (by simp; omega) (.int .i64 (x * y))).setCell (p := ⟨w.heap.size + 1 + 1, 1, none⟩) (by simp; omega) (.bool false)).setCell (p := ⟨w.heap.size + 1 + 1, 2, none⟩) (by simp; omega) (.slice none 0 0)
    refine bodyPost_ret ?_ rfl ⟨_, rfl, isN_small _ _ (x * y) HP.out.1 HP.out.2, (hb3.alloc (by have := HS.out; simp; omega) _).alloc (by have := HS.out; simp; omega) _⟩
    have e : ∀ i o1 o2, (((((W0.setCell ⟨w.heap.size + 1 + 1, 0, none⟩ (.int .i64 (x * y))).setCell ⟨w.heap.size + 1 + 1, 1, none⟩ (.bool false)).setCell ⟨w.heap.size + 1 + 1, 2, none⟩ (.slice none 0 0)).alloc o1).alloc o2).cell? ⟨w.heap.size + 1 + 1, i, none⟩ = (((W0.setCell ⟨w.heap.size + 1 + 1, 0, none⟩ (.int .i64 (x * y))).setCell ⟨w.heap.size + 1 + 1, 1, none⟩ (.bool false)).setCell ⟨w.heap.size + 1 + 1, 2, none⟩ (.slice none 0 0)).cell? ⟨w.heap.size + 1 + 1, i, none⟩ := fun i o1 o2 => by
      rw [World.cell?_alloc_past _ _ _ (by simp; omega), World.cell?_alloc_past _ _ _ (by simp; omega)]
    simp [results, Tryz.results52, go_sem, e, r0, r1, r2]
end Go.Proofs.YtpjnglcojamfmaaGreatDoor
