import Derived.Test.YtfhgfclfhghlcaaDoorAddInto
import Derived.Test.YtfhgfclfhghlcaaDoorRowT
namespace Go.Proofs.YtfhgfclfhghlcaaDoor
open Go.ChangeShapes Go.WideShapes Go.ChangeAt Go.RowKit
theorem scaled_step (P A Bv La c x y d c' f : Nat) (h : La + f * Bv = A + P * c) (hd : d + (c + f * y) = x + 1000000000 * c') : La + P * d + f * (Bv + P * y) = A + P * x + P * 1000000000 * c' := by
  have h1 : P * (d + (c + f * y)) = P * (x + 1000000000 * c') := by rw [hd]
  rw [Nat.mul_add, Nat.mul_add, Nat.mul_add, ← Nat.mul_assoc, ← Nat.mul_assoc] at h1
  rw [Nat.mul_add, ← Nat.mul_assoc, Nat.mul_comm f P]
  omega
theorem owed_le (c f F : Nat) (hc : c ≤ f) (hF : F ≤ f * 999999999) : (c + F) / 1000000000 ≤ f := by omega
theorem owed_lt (c f F : Nat) (hc : c ≤ f) (hF : F ≤ f * 999999999) (h : 0 < (c + F) % 1000000000) : (c + F) / 1000000000 + 1 ≤ f := by omega
set_option maxRecDepth 100000 in
set_option maxHeartbeats 2000000 in
theorem subScaled_any (R n cap f : Nat) (vb : Value) (pb : Option Addr) (cb : Nat) (A b : List Nat) (w : World) (hR : RowT w R A) (hAok : okL A) (hn : n ≤ A.length) (hA : A.length ≤ 1000000) (hbn : b.length ≤ n) (hbok : okL b)
    (hvb : vb = .slice pb b.length cb) (hcap : n ≤ cap) (hf : f ≤ 1000000000)
    (hcb : ∀ i, i < b.length → ∃ c off, pb = some ⟨c, off, none⟩ ∧ c < R ∧ w.cell? ⟨c, off + i, none⟩ = some (.int .u32 (b.getD i 0 : Nat))) :
    Calls Tryd.prog 78 #[.slice (some ⟨R, 0, none⟩) n cap, vb, .int .u64 (f : Nat)] w fun e w' => ∃ c L, e = .returned (.int .u64 (c : Nat)) ∧ RowT w' R L ∧ L.length = A.length ∧ okL L ∧ L.drop n = A.drop n ∧ c ≤ f ∧
      val (L.take n) + f * val b = val (A.take n) + 1000000000 ^ n * c ∧ Below R w w' := by
  subst hvb
  have HB : Hid (∀ i, i < b.length → ∃ c off, pb = some ⟨c, off, none⟩ ∧ c < R ∧ w.cell? ⟨c, off + i, none⟩ = some (.int .u32 (b.getD i 0 : Nat))) := hcb
  clear hcb
  go_enter Tryd.func78, Tryd.ntmps78
  go_wp2
  go_loopw [7, 12] (fun cv iv wr => ∃ (i c : Nat) (L : List Nat), i ≤ n ∧ c ≤ f ∧ L.length = A.length ∧ okL L ∧ RowT wr R L ∧ L.drop i = A.drop i ∧ cv = .int .u64 (c : Nat) ∧ iv = .int .i64 i ∧
      val (L.take i) + f * val (b.take i) = val (A.take i) + 1000000000 ^ i * c ∧ Below R w wr) (fun _ iv _ => n - (intOf iv).toNat)
  case atStart => exact ⟨0, 0, A, by omega, by omega, rfl, hAok, hR, rfl, rfl, rfl, by simp [val], Below.refl _ _⟩
  case round =>
    clear hR
    obtain ⟨i, c, L, hi, hcf, hLl, hLok, hR, hdr, rfl, rfl, hval, hB⟩ := hrel
    have hc : c ≤ 1000000000 := by omega
    by_cases hin : i < n
    · have hcell := hR.cell i (by omega)
      have hx := getD_drop L A i hdr
      have hxb := okL_getD A hAok i (by omega)
      rw [hx] at hcell
      clear hx
      obtain ⟨x, hx⟩ : ∃ x, A.getD i 0 = x := ⟨_, rfl⟩
      rw [hx] at hxb hcell
      by_cases hib : i < b.length
      · obtain ⟨bb, ob, rfl, hlb', hcb⟩ := HB.out i hib
        rw [← hB.cell (p := ⟨bb, ob + i, none⟩) hlb'] at hcb
        have hyb := okL_getD b hbok i hib
        obtain ⟨y, hy⟩ : ∃ y, b.getD i 0 = y := ⟨_, rfl⟩
        rw [hy] at hcb hyb
        obtain ⟨F, hF⟩ : ∃ F, f * y = F := ⟨_, rfl⟩
        have hFb : F ≤ f * 999999999 := by rw [← hF]; exact Nat.mul_le_mul_left f (by omega)
        by_cases hov : x < (c + F) % 1000000000
        · skip
          have hst := scaled_step (1000000000 ^ i) _ _ _ c x y (x + 1000000000 - (c + F) % 1000000000) ((c + F) / 1000000000 + 1) f hval (by rw [hF]; omega)
          have HST : Hid (val ((L.set i (x + 1000000000 - (c + F) % 1000000000)).take (i + 1)) + f * val (b.take (i + 1)) = val (A.take (i + 1)) + 1000000000 ^ (i + 1) * ((c + F) / 1000000000 + 1)) := by
            show val ((L.set i (x + 1000000000 - (c + F) % 1000000000)).take (i + 1)) + f * val (b.take (i + 1)) = val (A.take (i + 1)) + 1000000000 ^ (i + 1) * ((c + F) / 1000000000 + 1)
            rw [val_take_set L i _ (by omega), val_take_succ, val_take_succ, hx, hy, Nat.pow_succ]
            exact hst
          have hfr := hR.frozen i
          have HR2 : Hid (∀ u : Nat, RowT ((wr.setCell ⟨R, i, none⟩ (.int .u32 (u : Nat))).setCell ⟨R, i, none⟩ (.int .u32 (((x + 1000000000 - (c + F) % 1000000000) : Nat) : Int))) R (L.set i (x + 1000000000 - (c + F) % 1000000000))) := fun u => by
            have h := (hR.set i u (by omega)).set i (x + 1000000000 - (c + F) % 1000000000) (by simp; omega)
            rw [List.set_set] at h
            exact h
          have HR1 : Hid (RowT (wr.setCell ⟨R, i, none⟩ (.int .u32 (((x + 1000000000 - (c + F) % 1000000000) : Nat) : Int))) R (L.set i (x + 1000000000 - (c + F) % 1000000000))) := hR.set i _ (by omega)
          have HB2 : Hid (∀ u v, Below R w (wr.setCell ⟨R, i, none⟩ u) ∧ Below R w ((wr.setCell ⟨R, i, none⟩ u).setCell ⟨R, i, none⟩ v)) := fun u v => ⟨hB.setCell (Nat.le_refl _) u, (hB.setCell (Nat.le_refl _) u).setCell (Nat.le_refl _) v⟩
          have HOK : Hid (okL (L.set i (x + 1000000000 - (c + F) % 1000000000))) := okL_set L hLok i _ (by omega)
          have HDR : Hid ((L.set i (x + 1000000000 - (c + F) % 1000000000)).drop (i + 1) = A.drop (i + 1)) := drop_set_succ L A i _ hdr
          have HCF : Hid ((c + F) / 1000000000 + 1 ≤ f) := by
            show (c + F) / 1000000000 + 1 ≤ f
            omega
          clear hst hval hx hy hR hB hLok hdr
          obtain ⟨X, hX⟩ : ∃ X : Int, (x : Int) = X := ⟨_, rfl⟩
          have HX : Hid ((x : Int) = X) := hX
          have x1 : 0 ≤ X := by omega
          have x2 : X < 1000000000 := by omega
          rw [hX] at hcell
          obtain ⟨C, hC⟩ : ∃ C : Int, (c : Int) = C := ⟨_, rfl⟩
          have HC : Hid ((c : Int) = C) := hC
          have c1 : 0 ≤ C := by omega
          have c2 : C ≤ 1000000000 := by omega
          rw [hC]
          obtain ⟨G, hG⟩ : ∃ G : Int, (f : Int) = G := ⟨_, rfl⟩
          rw [hG]
          obtain ⟨Y, hY⟩ : ∃ Y : Int, (y : Int) = Y := ⟨_, rfl⟩
          have hFI : (F : Int) = G * Y := by rw [← hF, ← hG, ← hY]; rfl
          have HFI : Hid ((F : Int) = G * Y) := hFI
          have g1 : 0 ≤ G * Y := by rw [← hFI]; omega
          have g2 : G * Y ≤ 999999999000000000 := by rw [← hFI]; omega
          have y1 : 0 ≤ Y := by omega
          have y2 : Y < 1000000000 := by omega
          rw [hY] at hcb
          have t1 : X < (C + G * Y) % 1000000000 := by omega
          have HHOV : Hid _ := hov
          clear hX hxb hov hC hG hY hFI hyb hF hFb hc hcf
          go_wp2
          go_roundw
          case rel =>
            refine ⟨i + 1, (c + F) / 1000000000 + 1, L.set i (x + 1000000000 - (c + F) % 1000000000), by omega, HCF.out, by simp [hLl], HOK.out, ?_, HDR.out, ?_, by go_num, HST.out, ?_⟩
            · have h := HR2.out (x + 1000000000)
              rw [show ((((x + 1000000000 - (c + F) % 1000000000)) : Nat) : Int) = _ from ?_, show (((x + 1000000000 : Nat)) : Int) = _ from ?_] at h
              · exact h
              · have := HX.out; have := HC.out; have := HHOV.out; have := HFI.out;  omega
              · have := HX.out; have := HC.out; have := HHOV.out; have := HFI.out;  omega
            · congr 1; have := HX.out; have := HC.out; have := HHOV.out; have := HFI.out;  omega
            · first | exact (HB2.out _ (.bool true)).1 | exact (HB2.out _ _).2
          case measure => simp [intOf]; omega
        · skip
          have hst := scaled_step (1000000000 ^ i) _ _ _ c x y (x - (c + F) % 1000000000) ((c + F) / 1000000000) f hval (by rw [hF]; omega)
          have HST : Hid (val ((L.set i (x - (c + F) % 1000000000)).take (i + 1)) + f * val (b.take (i + 1)) = val (A.take (i + 1)) + 1000000000 ^ (i + 1) * ((c + F) / 1000000000)) := by
            show val ((L.set i (x - (c + F) % 1000000000)).take (i + 1)) + f * val (b.take (i + 1)) = val (A.take (i + 1)) + 1000000000 ^ (i + 1) * ((c + F) / 1000000000)
            rw [val_take_set L i _ (by omega), val_take_succ, val_take_succ, hx, hy, Nat.pow_succ]
            exact hst
          have hfr := hR.frozen i
          have HR2 : Hid (∀ u : Nat, RowT ((wr.setCell ⟨R, i, none⟩ (.int .u32 (u : Nat))).setCell ⟨R, i, none⟩ (.int .u32 (((x - (c + F) % 1000000000) : Nat) : Int))) R (L.set i (x - (c + F) % 1000000000))) := fun u => by
            have h := (hR.set i u (by omega)).set i (x - (c + F) % 1000000000) (by simp; omega)
            rw [List.set_set] at h
            exact h
          have HR1 : Hid (RowT (wr.setCell ⟨R, i, none⟩ (.int .u32 (((x - (c + F) % 1000000000) : Nat) : Int))) R (L.set i (x - (c + F) % 1000000000))) := hR.set i _ (by omega)
          have HB2 : Hid (∀ u v, Below R w (wr.setCell ⟨R, i, none⟩ u) ∧ Below R w ((wr.setCell ⟨R, i, none⟩ u).setCell ⟨R, i, none⟩ v)) := fun u v => ⟨hB.setCell (Nat.le_refl _) u, (hB.setCell (Nat.le_refl _) u).setCell (Nat.le_refl _) v⟩
          have HOK : Hid (okL (L.set i (x - (c + F) % 1000000000))) := okL_set L hLok i _ (by omega)
          have HDR : Hid ((L.set i (x - (c + F) % 1000000000)).drop (i + 1) = A.drop (i + 1)) := drop_set_succ L A i _ hdr
          have HCF : Hid ((c + F) / 1000000000 ≤ f) := by
            show (c + F) / 1000000000 ≤ f
            omega
          clear hst hval hx hy hR hB hLok hdr
          obtain ⟨X, hX⟩ : ∃ X : Int, (x : Int) = X := ⟨_, rfl⟩
          have HX : Hid ((x : Int) = X) := hX
          have x1 : 0 ≤ X := by omega
          have x2 : X < 1000000000 := by omega
          rw [hX] at hcell
          obtain ⟨C, hC⟩ : ∃ C : Int, (c : Int) = C := ⟨_, rfl⟩
          have HC : Hid ((c : Int) = C) := hC
          have c1 : 0 ≤ C := by omega
          have c2 : C ≤ 1000000000 := by omega
          rw [hC]
          obtain ⟨G, hG⟩ : ∃ G : Int, (f : Int) = G := ⟨_, rfl⟩
          rw [hG]
          obtain ⟨Y, hY⟩ : ∃ Y : Int, (y : Int) = Y := ⟨_, rfl⟩
          have hFI : (F : Int) = G * Y := by rw [← hF, ← hG, ← hY]; rfl
          have HFI : Hid ((F : Int) = G * Y) := hFI
          have g1 : 0 ≤ G * Y := by rw [← hFI]; omega
          have g2 : G * Y ≤ 999999999000000000 := by rw [← hFI]; omega
          have y1 : 0 ≤ Y := by omega
          have y2 : Y < 1000000000 := by omega
          rw [hY] at hcb
          have t1 : (C + G * Y) % 1000000000 ≤ X := by omega
          have HHOV : Hid _ := hov
          clear hX hxb hov hC hG hY hFI hyb hF hFb hc hcf
          go_wp2
          go_roundw
          case rel =>
            refine ⟨i + 1, (c + F) / 1000000000, L.set i (x - (c + F) % 1000000000), by omega, HCF.out, by simp [hLl], HOK.out, ?_, HDR.out, ?_, by go_num, HST.out, ?_⟩
            · have h := HR1.out
              rw [show ((((x - (c + F) % 1000000000)) : Nat) : Int) = _ from ?_] at h
              · exact h
              · have := HX.out; have := HC.out; have := HHOV.out; have := HFI.out;  omega
            · congr 1; have := HX.out; have := HC.out; have := HHOV.out; have := HFI.out;  omega
            · first | exact (HB2.out _ (.bool true)).1 | exact (HB2.out _ _).2
          case measure => simp [intOf]; omega
      · have hy : b.getD i 0 = 0 := by rw [List.getD_eq_getElem?_getD, List.getElem?_eq_none (by omega)]; rfl
        by_cases hc0 : c = 0
        · subst hc0
          have hE : val (L.take n) + f * val b = val (A.take n) := by
            rw [Nat.mul_zero, Nat.add_zero, List.take_of_length_le (show b.length ≤ i by omega)] at hval
            exact (val_from A L i n hi hLl.symm hdr.symm (f * val b) hval.symm).symm
          have HE : Hid (RowT wr R L ∧ L.length = A.length ∧ okL L ∧ L.drop n = A.drop n ∧ val (L.take n) + f * val b = val (A.take n) + 1000000000 ^ n * 0 ∧ Below R w wr) := ⟨hR, hLl, hLok, by rw [show n = i + (n - i) by omega, ← List.drop_drop, ← List.drop_drop, hdr], by rw [hE, Nat.mul_zero, Nat.add_zero], hB⟩
          clear hE hval hR hB hLok hdr hx hy
          go_wp2
          go_ret
          obtain ⟨e1, e2, e3, e4, e5, e6⟩ := HE.out
          exact ⟨0, L, rfl, e1, e2, e3, e4, by omega, e5, e6⟩
        · by_cases hov : x < c % 1000000000
          · skip
            have hst := scaled_step (1000000000 ^ i) _ _ _ c x 0 (x + 1000000000 - c % 1000000000) (c / 1000000000 + 1) f hval (by rw [Nat.mul_zero]; omega)
            have HST : Hid (val ((L.set i (x + 1000000000 - c % 1000000000)).take (i + 1)) + f * val (b.take (i + 1)) = val (A.take (i + 1)) + 1000000000 ^ (i + 1) * (c / 1000000000 + 1)) := by
              show val ((L.set i (x + 1000000000 - c % 1000000000)).take (i + 1)) + f * val (b.take (i + 1)) = val (A.take (i + 1)) + 1000000000 ^ (i + 1) * (c / 1000000000 + 1)
              rw [val_take_set L i _ (by omega), val_take_succ, val_take_succ, hx, hy, Nat.pow_succ]
              exact hst
            have hfr := hR.frozen i
            have HR2 : Hid (∀ u : Nat, RowT ((wr.setCell ⟨R, i, none⟩ (.int .u32 (u : Nat))).setCell ⟨R, i, none⟩ (.int .u32 (((x + 1000000000 - c % 1000000000) : Nat) : Int))) R (L.set i (x + 1000000000 - c % 1000000000))) := fun u => by
              have h := (hR.set i u (by omega)).set i (x + 1000000000 - c % 1000000000) (by simp; omega)
              rw [List.set_set] at h
              exact h
            have HR1 : Hid (RowT (wr.setCell ⟨R, i, none⟩ (.int .u32 (((x + 1000000000 - c % 1000000000) : Nat) : Int))) R (L.set i (x + 1000000000 - c % 1000000000))) := hR.set i _ (by omega)
            have HB2 : Hid (∀ u v, Below R w (wr.setCell ⟨R, i, none⟩ u) ∧ Below R w ((wr.setCell ⟨R, i, none⟩ u).setCell ⟨R, i, none⟩ v)) := fun u v => ⟨hB.setCell (Nat.le_refl _) u, (hB.setCell (Nat.le_refl _) u).setCell (Nat.le_refl _) v⟩
            have HOK : Hid (okL (L.set i (x + 1000000000 - c % 1000000000))) := okL_set L hLok i _ (by omega)
            have HDR : Hid ((L.set i (x + 1000000000 - c % 1000000000)).drop (i + 1) = A.drop (i + 1)) := drop_set_succ L A i _ hdr
            have HCF : Hid (c / 1000000000 + 1 ≤ f) := by
              show c / 1000000000 + 1 ≤ f
              omega
            clear hst hval hx hy hR hB hLok hdr
            obtain ⟨X, hX⟩ : ∃ X : Int, (x : Int) = X := ⟨_, rfl⟩
            have HX : Hid ((x : Int) = X) := hX
            have x1 : 0 ≤ X := by omega
            have x2 : X < 1000000000 := by omega
            rw [hX] at hcell
            obtain ⟨C, hC⟩ : ∃ C : Int, (c : Int) = C := ⟨_, rfl⟩
            have HC : Hid ((c : Int) = C) := hC
            have c1 : 0 ≤ C := by omega
            have c2 : C ≤ 1000000000 := by omega
            rw [hC]
            obtain ⟨G, hG⟩ : ∃ G : Int, (f : Int) = G := ⟨_, rfl⟩
            rw [hG]
            have t1 : X < C % 1000000000 := by omega
            have HHOV : Hid _ := hov
            have t2 : 0 < C := by omega
            clear hX hxb hov hC hG hc0 hc hcf
            go_wp2
            go_roundw
            case rel =>
              refine ⟨i + 1, c / 1000000000 + 1, L.set i (x + 1000000000 - c % 1000000000), by omega, HCF.out, by simp [hLl], HOK.out, ?_, HDR.out, ?_, by go_num, HST.out, ?_⟩
              · have h := HR2.out (x + 1000000000)
                rw [show ((((x + 1000000000 - c % 1000000000)) : Nat) : Int) = _ from ?_, show (((x + 1000000000 : Nat)) : Int) = _ from ?_] at h
                · exact h
                · have := HX.out; have := HC.out; have := HHOV.out;  omega
                · have := HX.out; have := HC.out; have := HHOV.out;  omega
              · congr 1; have := HX.out; have := HC.out; have := HHOV.out;  omega
              · first | exact (HB2.out _ (.bool true)).1 | exact (HB2.out _ _).2
            case measure => simp [intOf]; omega
          · skip
            have hst := scaled_step (1000000000 ^ i) _ _ _ c x 0 (x - c % 1000000000) (c / 1000000000) f hval (by rw [Nat.mul_zero]; omega)
            have HST : Hid (val ((L.set i (x - c % 1000000000)).take (i + 1)) + f * val (b.take (i + 1)) = val (A.take (i + 1)) + 1000000000 ^ (i + 1) * (c / 1000000000)) := by
              show val ((L.set i (x - c % 1000000000)).take (i + 1)) + f * val (b.take (i + 1)) = val (A.take (i + 1)) + 1000000000 ^ (i + 1) * (c / 1000000000)
              rw [val_take_set L i _ (by omega), val_take_succ, val_take_succ, hx, hy, Nat.pow_succ]
              exact hst
            have hfr := hR.frozen i
            have HR2 : Hid (∀ u : Nat, RowT ((wr.setCell ⟨R, i, none⟩ (.int .u32 (u : Nat))).setCell ⟨R, i, none⟩ (.int .u32 (((x - c % 1000000000) : Nat) : Int))) R (L.set i (x - c % 1000000000))) := fun u => by
              have h := (hR.set i u (by omega)).set i (x - c % 1000000000) (by simp; omega)
              rw [List.set_set] at h
              exact h
            have HR1 : Hid (RowT (wr.setCell ⟨R, i, none⟩ (.int .u32 (((x - c % 1000000000) : Nat) : Int))) R (L.set i (x - c % 1000000000))) := hR.set i _ (by omega)
            have HB2 : Hid (∀ u v, Below R w (wr.setCell ⟨R, i, none⟩ u) ∧ Below R w ((wr.setCell ⟨R, i, none⟩ u).setCell ⟨R, i, none⟩ v)) := fun u v => ⟨hB.setCell (Nat.le_refl _) u, (hB.setCell (Nat.le_refl _) u).setCell (Nat.le_refl _) v⟩
            have HOK : Hid (okL (L.set i (x - c % 1000000000))) := okL_set L hLok i _ (by omega)
            have HDR : Hid ((L.set i (x - c % 1000000000)).drop (i + 1) = A.drop (i + 1)) := drop_set_succ L A i _ hdr
            have HCF : Hid (c / 1000000000 ≤ f) := by
              show c / 1000000000 ≤ f
              omega
            clear hst hval hx hy hR hB hLok hdr
            obtain ⟨X, hX⟩ : ∃ X : Int, (x : Int) = X := ⟨_, rfl⟩
            have HX : Hid ((x : Int) = X) := hX
            have x1 : 0 ≤ X := by omega
            have x2 : X < 1000000000 := by omega
            rw [hX] at hcell
            obtain ⟨C, hC⟩ : ∃ C : Int, (c : Int) = C := ⟨_, rfl⟩
            have HC : Hid ((c : Int) = C) := hC
            have c1 : 0 ≤ C := by omega
            have c2 : C ≤ 1000000000 := by omega
            rw [hC]
            obtain ⟨G, hG⟩ : ∃ G : Int, (f : Int) = G := ⟨_, rfl⟩
            rw [hG]
            have t1 : C % 1000000000 ≤ X := by omega
            have HHOV : Hid _ := hov
            have t2 : 0 < C := by omega
            clear hX hxb hov hC hG hc0 hc hcf
            go_wp2
            go_roundw
            case rel =>
              refine ⟨i + 1, c / 1000000000, L.set i (x - c % 1000000000), by omega, HCF.out, by simp [hLl], HOK.out, ?_, HDR.out, ?_, by go_num, HST.out, ?_⟩
              · have h := HR1.out
                rw [show ((((x - c % 1000000000)) : Nat) : Int) = _ from ?_] at h
                · exact h
                · have := HX.out; have := HC.out; have := HHOV.out;  omega
              · congr 1; have := HX.out; have := HC.out; have := HHOV.out;  omega
              · first | exact (HB2.out _ (.bool true)).1 | exact (HB2.out _ _).2
            case measure => simp [intOf]; omega
    · obtain rfl : i = n := by omega
      rw [List.take_of_length_le (show b.length ≤ i by omega)] at hval
      have HE : Hid (RowT wr R L ∧ L.length = A.length ∧ okL L ∧ L.drop i = A.drop i ∧ val (L.take i) + f * val b = val (A.take i) + 1000000000 ^ i * c ∧ Below R w wr) := ⟨hR, hLl, hLok, hdr, hval, hB⟩
      clear hval hR hB hLok hdr
      go_wp2
      go_ret
      obtain ⟨e1, e2, e3, e4, e5, e6⟩ := HE.out
      exact ⟨c, L, rfl, e1, e2, e3, e4, hcf, e5, e6⟩
end Go.Proofs.YtfhgfclfhghlcaaDoor
