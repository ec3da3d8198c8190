import Derived.Test.YtfhgfclfhghlcaaDoorAddInto
import Derived.Test.YtfhgfclfhghlcaaDoorRowT
namespace Go.Proofs.YtfhgfclfhghlcaaDoor
open Go.ChangeShapes Go.WideShapes Go.ChangeAt Go.RowKit
/-- The value, when one limb is written. -/
theorem val_set (l : List Nat) (j x : Nat) (hj : j < l.length) : val (l.set j x) + 1000000000 ^ j * l.getD j 0 = val l + 1000000000 ^ j * x := by
  induction l generalizing j with
  | nil => simp at hj
  | cons y l ih =>
    cases j with
    | zero => simp [val]; omega
    | succ j =>
      have h := ih j (by simpa using hj)
      simp only [List.set_cons_succ, val, List.getD_cons_succ, Nat.pow_succ, Nat.mul_comm _ 1000000000, Nat.mul_assoc]
      omega
theorem scadd_step (P VL VN VA K c x F d c' : Nat) (h : VL + P * c = VA + K) (hs : VN + P * x = VL + P * d) (hd : d + 1000000000 * c' = c + F + x) : VN + P * 1000000000 * c' = VA + (K + P * F) := by
  have h1 : P * (d + 1000000000 * c') = P * (c + F + x) := by rw [hd]
  rw [Nat.mul_add, Nat.mul_add, Nat.mul_add, ← Nat.mul_assoc] at h1
  omega
theorem scadd_sum (off i f v y : Nat) : 1000000000 ^ off * (f * (v + 1000000000 ^ i * y)) = 1000000000 ^ off * (f * v) + 1000000000 ^ (off + i) * (f * y) := by
  rw [Nat.mul_add, Nat.mul_add, Nat.pow_add, Nat.mul_left_comm f, Nat.mul_assoc]
set_option maxRecDepth 100000 in
set_option maxHeartbeats 2000000 in
theorem addScaled_any (R off cap f : Nat) (vb : Value) (pb : Option Addr) (cb : Nat) (A b : List Nat) (w : World) (hR : RowT w R A) (hAok : okL A) (hn : off + b.length ≤ A.length) (hA : A.length ≤ 1000000) (hbok : okL b)
    (hvb : vb = .slice pb b.length cb) (_hcap : b.length ≤ cap) (hf : f < 1000000000)
    (hcb : ∀ i, i < b.length → ∃ c off, pb = some ⟨c, off, none⟩ ∧ c < R ∧ w.cell? ⟨c, off + i, none⟩ = some (.int .u32 (b.getD i 0 : Nat))) :
    Calls Tryd.prog 84 #[.slice (some ⟨R, off, none⟩) b.length cap, vb, .int .u64 (f : Nat)] w fun e w' => ∃ c L, e = .returned (.int .u32 (c : Nat)) ∧ RowT w' R L ∧ L.length = A.length ∧ okL L ∧ L.drop (off + b.length) = A.drop (off + b.length) ∧ c ≤ f ∧
      val L + 1000000000 ^ (off + b.length) * c = val A + 1000000000 ^ off * (f * val b) ∧ Below R w w' := by
  subst hvb
  have HB : Hid (∀ i, i < b.length → ∃ c off, pb = some ⟨c, off, none⟩ ∧ c < R ∧ w.cell? ⟨c, off + i, none⟩ = some (.int .u32 (b.getD i 0 : Nat))) := hcb
  clear hcb
  go_enter Tryd.func84, Tryd.ntmps84
  go_wp2
  go_loopw [7, 12] (fun cv iv wr => ∃ (i c : Nat) (L : List Nat), i ≤ b.length ∧ c ≤ f ∧ L.length = A.length ∧ okL L ∧ RowT wr R L ∧ L.drop (off + i) = A.drop (off + i) ∧ cv = .int .u64 (c : Nat) ∧ iv = .int .i64 i ∧
      val L + 1000000000 ^ (off + i) * c = val A + 1000000000 ^ off * (f * val (b.take i)) ∧ Below R w wr) (fun _ iv _ => b.length - (intOf iv).toNat)
  case atStart => exact ⟨0, 0, A, by omega, by omega, rfl, hAok, hR, rfl, rfl, rfl, by simp [val], Below.refl _ _⟩
  case round =>
    clear hR
    obtain ⟨i, c, L, hi, hcf, hLl, hLok, hR, hdr, rfl, rfl, hval, hB⟩ := hrel
    by_cases hib : i < b.length
    · have hcell := hR.cell (off + i) (by omega)
      have hxb := okL_getD L hLok (off + i) (by omega)
      obtain ⟨x, hx⟩ : ∃ x, L.getD (off + i) 0 = x := ⟨_, rfl⟩
      rw [hx] at hxb hcell
      obtain ⟨bb, ob, rfl, hlb', hcb⟩ := HB.out i hib
      rw [← hB.cell (p := ⟨bb, ob + i, none⟩) hlb'] at hcb
      have hyb := okL_getD b hbok i hib
      obtain ⟨y, hy⟩ : ∃ y, b.getD i 0 = y := ⟨_, rfl⟩
      rw [hy] at hcb hyb
      obtain ⟨F, hF⟩ : ∃ F, f * y = F := ⟨_, rfl⟩
      have hFb : F ≤ f * 999999999 := by rw [← hF]; exact Nat.mul_le_mul_left f (by omega)
      have hvs := val_set L (off + i) ((c + F + x) % 1000000000) (by omega)
      rw [hx] at hvs
      have hst := scadd_step (1000000000 ^ (off + i)) _ _ _ _ c x F ((c + F + x) % 1000000000) ((c + F + x) / 1000000000) hval hvs (by omega)
      have HST : Hid (val (L.set (off + i) ((c + F + x) % 1000000000)) + 1000000000 ^ (off + (i + 1)) * ((c + F + x) / 1000000000) = val A + 1000000000 ^ off * (f * val (b.take (i + 1)))) := by
        show val (L.set (off + i) ((c + F + x) % 1000000000)) + 1000000000 ^ (off + (i + 1)) * ((c + F + x) / 1000000000) = val A + 1000000000 ^ off * (f * val (b.take (i + 1)))
        rw [val_take_succ, hy, scadd_sum, hF, ← Nat.add_assoc, Nat.pow_succ]
        exact hst
      have hfr := hR.frozen (off + i)
      have HR1 : Hid (RowT (wr.setCell ⟨R, off + i, none⟩ (.int .u32 ((((c + F + x) % 1000000000) : Nat) : Int))) R (L.set (off + i) ((c + F + x) % 1000000000))) := hR.set (off + i) _ (by omega)
      have HB2 : Hid (∀ u, Below R w (wr.setCell ⟨R, off + i, none⟩ u)) := fun u => hB.setCell (Nat.le_refl _) u
      have HOK : Hid (okL (L.set (off + i) ((c + F + x) % 1000000000))) := okL_set L hLok (off + i) _ (Nat.mod_lt _ (by decide))
      have HDR : Hid ((L.set (off + i) ((c + F + x) % 1000000000)).drop (off + (i + 1)) = A.drop (off + (i + 1))) := drop_set_succ L A (off + i) _ hdr
      have HCF : Hid ((c + F + x) / 1000000000 ≤ f) := by
        show (c + F + x) / 1000000000 ≤ f
        omega
      clear hst hval hx hy hR hB hLok hdr hvs
      obtain ⟨X, hX⟩ : ∃ X : Int, (x : Int) = X := ⟨_, rfl⟩
      have HX : Hid ((x : Int) = X) := hX
      have x1 : 0 ≤ X := by omega
      have x2 : X < 1000000000 := by omega
      rw [hX] at hcell
      obtain ⟨C, hC⟩ : ∃ C : Int, (c : Int) = C := ⟨_, rfl⟩
      have HC : Hid ((c : Int) = C) := hC
      have c1 : 0 ≤ C := by omega
      have c2 : C < 1000000000 := by omega
      rw [hC]
      obtain ⟨G, hG⟩ : ∃ G : Int, (f : Int) = G := ⟨_, rfl⟩
      rw [hG]
      obtain ⟨Y, hY⟩ : ∃ Y : Int, (y : Int) = Y := ⟨_, rfl⟩
      have hFI : (F : Int) = G * Y := by rw [← hF, ← hG, ← hY]; rfl
      have HFI : Hid ((F : Int) = G * Y) := hFI
      have g1 : 0 ≤ G * Y := by rw [← hFI]; omega
      have g2 : G * Y ≤ 999999999000000000 := by rw [← hFI]; omega
      have y1 : 0 ≤ Y := by omega
      have y2 : Y < 1000000000 := by omega
      rw [hY] at hcb
      clear hX hxb hC hG hY hFI hyb hF hFb hcf
      go_wp2
      go_roundw
      case rel =>
        refine ⟨i + 1, (c + F + x) / 1000000000, L.set (off + i) ((c + F + x) % 1000000000), by omega, HCF.out, by simp [hLl], HOK.out, ?_, HDR.out, ?_, by go_num, HST.out, HB2.out _⟩
        · have h := HR1.out
          rw [show ((((c + F + x) % 1000000000) : Nat) : Int) = _ from ?_] at h
          · exact h
          · have := HX.out; have := HC.out; have := HFI.out; omega
        · congr 1; have := HX.out; have := HC.out; have := HFI.out; omega
      case measure => simp [intOf]; omega
    · obtain rfl : i = b.length := by omega
      rw [List.take_of_length_le (Nat.le_refl _)] at hval
      have HE : Hid (RowT wr R L ∧ L.length = A.length ∧ okL L ∧ L.drop (off + b.length) = A.drop (off + b.length) ∧ val L + 1000000000 ^ (off + b.length) * c = val A + 1000000000 ^ off * (f * val b) ∧ Below R w wr) := ⟨hR, hLl, hLok, hdr, hval, hB⟩
      clear hval hR hB hLok hdr
      go_wp2
      go_ret
      obtain ⟨e1, e2, e3, e4, e5, e6⟩ := HE.out
      exact ⟨c, L, rfl, e1, e2, e3, e4, hcf, e5, e6⟩
end Go.Proofs.YtfhgfclfhghlcaaDoor
