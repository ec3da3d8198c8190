import Derived.Test.YtfhgfclfhghlcaaDoorAddD
namespace Go.Proofs.YtfhgfclfhghlcaaDoor
open Go.ChangeShapes Go.WideShapes Go.ChangeAt Go.RowKit
theorem into_step (P A Bv La c x y d c' : Nat) (h : La + P * c = A + Bv) (hd : d + 1000000000 * c' = x + c + y) : La + P * d + P * 1000000000 * c' = A + P * x + (Bv + P * y) := by
  have h1 : P * (d + 1000000000 * c') = P * (x + c + y) := by rw [hd]
  rw [Nat.mul_add, Nat.mul_add, Nat.mul_add, ← Nat.mul_assoc] at h1
  omega
theorem val_from (L A : List Nat) (i n : Nat) (hi : i ≤ n) (hl : L.length = A.length) (hd : L.drop i = A.drop i) (V : Nat) (h : val (L.take i) = val (A.take i) + V) : val (L.take n) = val (A.take n) + V := by
  have key : ∀ X : List Nat, i ≤ X.length → val (X.take n) = val (X.take i) + 1000000000 ^ i * val ((X.drop i).take (n - i)) := fun X hX => by
    have h1 : X.take n = X.take i ++ (X.drop i).take (n - i) := by
      rw [show n = i + (n - i) by omega, List.take_add]; simp
    rw [h1, val_append, List.length_take, Nat.min_eq_left hX]
  by_cases hX : i ≤ A.length
  · rw [key L (by omega), key A hX, hd, h]; omega
  · rw [List.take_of_length_le (by omega), List.take_of_length_le (by omega)] at h ⊢
    exact h
theorem drop_set_succ (L A : List Nat) (i x : Nat) (h : L.drop i = A.drop i) : (L.set i x).drop (i + 1) = A.drop (i + 1) := by
  rw [List.drop_set_of_lt (by omega), ← List.drop_drop, ← List.drop_drop, h]
theorem getD_drop (L A : List Nat) (i : Nat) (h : L.drop i = A.drop i) : L.getD i 0 = A.getD i 0 := by
  have h1 : ∀ X : List Nat, X.getD i 0 = (X.drop i).getD 0 0 := fun X => by simp [List.getD_eq_getElem?_getD]
  rw [h1 L, h1 A, h]
set_option maxRecDepth 100000 in
set_option maxHeartbeats 2000000 in
theorem addInto_any (R n cap : Nat) (vb : Value) (pb : Option Addr) (cb : Nat) (A b : List Nat) (w : World) (hR : Row w R A) (hAok : okL A) (hn : n ≤ A.length) (hA : A.length ≤ 1000000) (hbn : b.length ≤ n) (hbok : okL b)
    (hvb : vb = .slice pb b.length cb) (hcap : n ≤ cap)
    (hcb : ∀ i, i < b.length → ∃ c off, pb = some ⟨c, off, none⟩ ∧ c < R ∧ w.cell? ⟨c, off + i, none⟩ = some (.int .u32 (b.getD i 0 : Nat))) :
    Calls Tryd.prog 76 #[.slice (some ⟨R, 0, none⟩) n cap, vb] w fun e w' => ∃ c L, e = .returned (.int .u32 (c : Nat)) ∧ Row w' R L ∧ L.length = A.length ∧ okL L ∧ L.drop n = A.drop n ∧ c ≤ 1 ∧
      val (L.take n) + 1000000000 ^ n * c = val (A.take n) + val b ∧ Below R w w' := by
  subst hvb
  have HB : Hid (∀ i, i < b.length → ∃ c off, pb = some ⟨c, off, none⟩ ∧ c < R ∧ w.cell? ⟨c, off + i, none⟩ = some (.int .u32 (b.getD i 0 : Nat))) := hcb
  clear hcb
  go_enter Tryd.func76, Tryd.ntmps76
  go_wp2
  go_loopw [5, 10] (fun cv iv wr => ∃ (i c : Nat) (L : List Nat), i ≤ n ∧ c ≤ 1 ∧ L.length = A.length ∧ okL L ∧ Row wr R L ∧ L.drop i = A.drop i ∧ cv = .int .u32 (c : Nat) ∧ iv = .int .i64 i ∧
      val (L.take i) + 1000000000 ^ i * c = val (A.take i) + val (b.take i) ∧ Below R w wr) (fun _ iv _ => n - (intOf iv).toNat)
  case atStart => exact ⟨0, 0, A, by omega, by omega, rfl, hAok, hR, rfl, rfl, rfl, by simp [val], Below.refl _ _⟩
  case round =>
    clear hR
    obtain ⟨i, c, L, hi, hc, hLl, hLok, hR, hdr, rfl, rfl, hval, hB⟩ := hrel
    by_cases hin : i < n
    · have hcell := hR.cell i (by omega)
      have hx := getD_drop L A i hdr
      have hxb := okL_getD A hAok i (by omega)
      rw [hx] at hcell
      clear hx
      obtain ⟨x, hx⟩ : ∃ x, A.getD i 0 = x := ⟨_, rfl⟩
      rw [hx] at hxb hcell
      by_cases hib : i < b.length
      · obtain ⟨bb, ob, rfl, hlb', hcb⟩ := HB.out i hib
        rw [← hB.cell (p := ⟨bb, ob + i, none⟩) hlb'] at hcb
        have hyb := okL_getD b hbok i hib
        obtain ⟨y, hy⟩ : ∃ y, b.getD i 0 = y := ⟨_, rfl⟩
        rw [hy] at hcb hyb
        by_cases hov : 1000000000 ≤ x + c + y
        · skip
          have hst := into_step (1000000000 ^ i) _ _ _ c x y (x + c + y - 1000000000) 1 hval (by omega)
          have HST : Hid (val ((L.set i (x + c + y - 1000000000)).take (i + 1)) + 1000000000 ^ (i + 1) * 1 = val (A.take (i + 1)) + val (b.take (i + 1))) := by
            show val ((L.set i (x + c + y - 1000000000)).take (i + 1)) + 1000000000 ^ (i + 1) * 1 = val (A.take (i + 1)) + val (b.take (i + 1))
            rw [val_take_set L i _ (by omega), val_take_succ, val_take_succ, hx, hy, Nat.pow_succ]
            exact hst
          have hfr := hR.frozen i
          have HR2 : Hid (Row (wr.setCell ⟨R, i, none⟩ (.int .u32 (((x + c + y - 1000000000) : Nat) : Int))) R (L.set i (x + c + y - 1000000000))) := hR.set i _
          have HB2 : Hid (∀ u, Below R w (wr.setCell ⟨R, i, none⟩ u)) := fun u => hB.setCell (Nat.le_refl _) u
          have HOK : Hid (okL (L.set i (x + c + y - 1000000000))) := okL_set L hLok i _ (by omega)
          have HDR : Hid ((L.set i (x + c + y - 1000000000)).drop (i + 1) = A.drop (i + 1)) := drop_set_succ L A i _ hdr
          clear hst hval hx hy hR hB hLok hdr
          obtain ⟨X, hX⟩ : ∃ X : Int, (x : Int) = X := ⟨_, rfl⟩
          have HX : Hid ((x : Int) = X) := hX
          have x1 : 0 ≤ X := by omega
          have x2 : X < 1000000000 := by omega
          rw [hX] at hcell
          obtain ⟨C, hC⟩ : ∃ C : Int, (c : Int) = C := ⟨_, rfl⟩
          have HC : Hid ((c : Int) = C) := hC
          have c1 : 0 ≤ C := by omega
          have c2 : C ≤ 1 := by omega
          rw [hC]
          obtain ⟨Y, hY⟩ : ∃ Y : Int, (y : Int) = Y := ⟨_, rfl⟩
          have HY : Hid ((y : Int) = Y) := hY
          have y1 : 0 ≤ Y := by omega
          have y2 : Y < 1000000000 := by omega
          rw [hY] at hcb
          have t1 : 1000000000 ≤ X + C + Y := by omega
          have HOV := (id hov : _)
          have HHOV : Hid _ := hov
          clear hX hxb hov hC hY hyb HOV
          go_wp2
          go_roundw
          case rel =>
            refine ⟨i + 1, 1, L.set i (x + c + y - 1000000000), by omega, by omega, by simp [hLl], HOK.out, ?_, HDR.out, rfl, by go_num, HST.out, HB2.out _⟩
            have h := HR2.out
            rw [show ((((x + c + y - 1000000000)) : Nat) : Int) = _ from ?_] at h
            · exact h
            · have := HHOV.out; have := HX.out; have := HC.out; have := HY.out; omega
          case measure => simp [intOf]; omega
        · skip
          have hst := into_step (1000000000 ^ i) _ _ _ c x y (x + c + y) 0 hval (by omega)
          have HST : Hid (val ((L.set i (x + c + y)).take (i + 1)) + 1000000000 ^ (i + 1) * 0 = val (A.take (i + 1)) + val (b.take (i + 1))) := by
            show val ((L.set i (x + c + y)).take (i + 1)) + 1000000000 ^ (i + 1) * 0 = val (A.take (i + 1)) + val (b.take (i + 1))
            rw [val_take_set L i _ (by omega), val_take_succ, val_take_succ, hx, hy, Nat.pow_succ]
            exact hst
          have hfr := hR.frozen i
          have HR2 : Hid (Row (wr.setCell ⟨R, i, none⟩ (.int .u32 (((x + c + y) : Nat) : Int))) R (L.set i (x + c + y))) := hR.set i _
          have HB2 : Hid (∀ u, Below R w (wr.setCell ⟨R, i, none⟩ u)) := fun u => hB.setCell (Nat.le_refl _) u
          have HOK : Hid (okL (L.set i (x + c + y))) := okL_set L hLok i _ (by omega)
          have HDR : Hid ((L.set i (x + c + y)).drop (i + 1) = A.drop (i + 1)) := drop_set_succ L A i _ hdr
          clear hst hval hx hy hR hB hLok hdr
          obtain ⟨X, hX⟩ : ∃ X : Int, (x : Int) = X := ⟨_, rfl⟩
          have HX : Hid ((x : Int) = X) := hX
          have x1 : 0 ≤ X := by omega
          have x2 : X < 1000000000 := by omega
          rw [hX] at hcell
          obtain ⟨C, hC⟩ : ∃ C : Int, (c : Int) = C := ⟨_, rfl⟩
          have HC : Hid ((c : Int) = C) := hC
          have c1 : 0 ≤ C := by omega
          have c2 : C ≤ 1 := by omega
          rw [hC]
          obtain ⟨Y, hY⟩ : ∃ Y : Int, (y : Int) = Y := ⟨_, rfl⟩
          have HY : Hid ((y : Int) = Y) := hY
          have y1 : 0 ≤ Y := by omega
          have y2 : Y < 1000000000 := by omega
          rw [hY] at hcb
          have t1 : X + C + Y < 1000000000 := by omega
          have HOV := (id hov : _)
          have HHOV : Hid _ := hov
          clear hX hxb hov hC hY hyb HOV
          go_wp2
          go_roundw
          case rel =>
            refine ⟨i + 1, 0, L.set i (x + c + y), by omega, by omega, by simp [hLl], HOK.out, ?_, HDR.out, rfl, by go_num, HST.out, HB2.out _⟩
            have h := HR2.out
            rw [show ((((x + c + y)) : Nat) : Int) = _ from ?_] at h
            · exact h
            · have := HHOV.out; have := HX.out; have := HC.out; have := HY.out; omega
          case measure => simp [intOf]; omega
      · have hy : b.getD i 0 = 0 := by rw [List.getD_eq_getElem?_getD, List.getElem?_eq_none (by omega)]; rfl
        by_cases hc0 : c = 0
        · subst hc0
          have hE := val_from L A i n hi hLl hdr (val b) (by rw [Nat.mul_zero, Nat.add_zero, List.take_of_length_le (show b.length ≤ i by omega)] at hval; exact hval)
          have HE : Hid (∃ c' L', Row wr R L' ∧ L'.length = A.length ∧ okL L' ∧ L'.drop n = A.drop n ∧ c' = 0 ∧ val (L'.take n) + 1000000000 ^ n * c' = val (A.take n) + val b) := ⟨0, L, hR, hLl, hLok, by rw [show n = i + (n - i) by omega, ← List.drop_drop, ← List.drop_drop, hdr], rfl, by rw [hE]; omega⟩
          have HBE : Hid (Below R w wr) := hB
          clear hE hval hR hB hLok hdr hx hy
          go_wp2
          go_ret
          obtain ⟨c', L', e1, e2, e3, e4, rfl, e5⟩ := HE.out
          exact ⟨0, L', rfl, e1, e2, e3, e4, by omega, e5, HBE.out⟩
        · obtain rfl : c = 1 := by omega
          by_cases hov : 1000000000 ≤ x + 1
          · skip
            have hst := into_step (1000000000 ^ i) _ _ _ 1 x 0 (x + 1 - 1000000000) 1 hval (by omega)
            have HST : Hid (val ((L.set i (x + 1 - 1000000000)).take (i + 1)) + 1000000000 ^ (i + 1) * 1 = val (A.take (i + 1)) + val (b.take (i + 1))) := by
              show val ((L.set i (x + 1 - 1000000000)).take (i + 1)) + 1000000000 ^ (i + 1) * 1 = val (A.take (i + 1)) + val (b.take (i + 1))
              rw [val_take_set L i _ (by omega), val_take_succ, val_take_succ, hx, hy, Nat.pow_succ]
              exact hst
            have hfr := hR.frozen i
            have HR2 : Hid (Row (wr.setCell ⟨R, i, none⟩ (.int .u32 (((x + 1 - 1000000000) : Nat) : Int))) R (L.set i (x + 1 - 1000000000))) := hR.set i _
            have HB2 : Hid (∀ u, Below R w (wr.setCell ⟨R, i, none⟩ u)) := fun u => hB.setCell (Nat.le_refl _) u
            have HOK : Hid (okL (L.set i (x + 1 - 1000000000))) := okL_set L hLok i _ (by omega)
            have HDR : Hid ((L.set i (x + 1 - 1000000000)).drop (i + 1) = A.drop (i + 1)) := drop_set_succ L A i _ hdr
            clear hst hval hx hy hR hB hLok hdr
            obtain ⟨X, hX⟩ : ∃ X : Int, (x : Int) = X := ⟨_, rfl⟩
            have HX : Hid ((x : Int) = X) := hX
            have x1 : 0 ≤ X := by omega
            have x2 : X < 1000000000 := by omega
            rw [hX] at hcell
            have t1 : 1000000000 ≤ X + 1 := by omega
            have HOV := (id hov : _)
            have HHOV : Hid _ := hov
            clear hX hxb hov HOV
            go_wp2
            go_roundw
            case rel =>
              refine ⟨i + 1, 1, L.set i (x + 1 - 1000000000), by omega, by omega, by simp [hLl], HOK.out, ?_, HDR.out, rfl, by go_num, HST.out, HB2.out _⟩
              have h := HR2.out
              rw [show ((((x + 1 - 1000000000)) : Nat) : Int) = _ from ?_] at h
              · exact h
              · have := HHOV.out; have := HX.out; omega
            case measure => simp [intOf]; omega
          · skip
            have hst := into_step (1000000000 ^ i) _ _ _ 1 x 0 (x + 1) 0 hval (by omega)
            have HST : Hid (val ((L.set i (x + 1)).take (i + 1)) + 1000000000 ^ (i + 1) * 0 = val (A.take (i + 1)) + val (b.take (i + 1))) := by
              show val ((L.set i (x + 1)).take (i + 1)) + 1000000000 ^ (i + 1) * 0 = val (A.take (i + 1)) + val (b.take (i + 1))
              rw [val_take_set L i _ (by omega), val_take_succ, val_take_succ, hx, hy, Nat.pow_succ]
              exact hst
            have hfr := hR.frozen i
            have HR2 : Hid (Row (wr.setCell ⟨R, i, none⟩ (.int .u32 (((x + 1) : Nat) : Int))) R (L.set i (x + 1))) := hR.set i _
            have HB2 : Hid (∀ u, Below R w (wr.setCell ⟨R, i, none⟩ u)) := fun u => hB.setCell (Nat.le_refl _) u
            have HOK : Hid (okL (L.set i (x + 1))) := okL_set L hLok i _ (by omega)
            have HDR : Hid ((L.set i (x + 1)).drop (i + 1) = A.drop (i + 1)) := drop_set_succ L A i _ hdr
            clear hst hval hx hy hR hB hLok hdr
            obtain ⟨X, hX⟩ : ∃ X : Int, (x : Int) = X := ⟨_, rfl⟩
            have HX : Hid ((x : Int) = X) := hX
            have x1 : 0 ≤ X := by omega
            have x2 : X < 1000000000 := by omega
            rw [hX] at hcell
            have t1 : X + 1 < 1000000000 := by omega
            have HOV := (id hov : _)
            have HHOV : Hid _ := hov
            clear hX hxb hov HOV
            go_wp2
            go_roundw
            case rel =>
              refine ⟨i + 1, 0, L.set i (x + 1), by omega, by omega, by simp [hLl], HOK.out, ?_, HDR.out, rfl, by go_num, HST.out, HB2.out _⟩
              have h := HR2.out
              rw [show ((((x + 1)) : Nat) : Int) = _ from ?_] at h
              · exact h
              · have := HHOV.out; have := HX.out; omega
            case measure => simp [intOf]; omega
    · obtain rfl : i = n := by omega
      rw [List.take_of_length_le (show b.length ≤ i by omega)] at hval
      have HE : Hid (Row wr R L ∧ L.length = A.length ∧ okL L ∧ L.drop i = A.drop i ∧ val (L.take i) + 1000000000 ^ i * c = val (A.take i) + val b ∧ Below R w wr) := ⟨hR, hLl, hLok, hdr, hval, hB⟩
      clear hval hR hB hLok hdr
      go_wp2
      go_ret
      obtain ⟨e1, e2, e3, e4, e5, e6⟩ := HE.out
      exact ⟨c, L, rfl, e1, e2, e3, e4, hc, e5, e6⟩
end Go.Proofs.YtfhgfclfhghlcaaDoor
