import Derived.Test.YtpjnglcojamfmaaGreatDoorM4
import Derived.Test.YtpjnglcojamfmaaGreatDoorOfImpl
namespace Go.Proofs.YtpjnglcojamfmaaGreatDoor
open Go.ChangeShapes Go.WideShapes Go.ChangeAt Go.RowKit
theorem getD_of_drop (L A : List Nat) (k j : Nat) (h : L.drop k = A.drop k) (hj : k ≤ j) : L.getD j 0 = A.getD j 0 := by
  have e : ∀ M : List Nat, M.getD j 0 = (M.drop k).getD (j - k) 0 := fun M => by
    rw [List.getD_eq_getElem?_getD, List.getD_eq_getElem?_getD, List.getElem?_drop, Nat.add_sub_cancel' hj]
  rw [e L, e A, h]
theorem getD_set_ne (L : List Nat) (k j x : Nat) (h : k ≠ j) : (L.set k x).getD j 0 = L.getD j 0 := by
  rw [List.getD_eq_getElem?_getD, List.getD_eq_getElem?_getD, List.getElem?_set_ne h]
theorem val_replicate (n : Nat) : val (List.replicate n 0) = 0 := by
  induction n with
  | zero => rfl
  | succ n ih => simp [List.replicate_succ, val, ih]
theorem mul_step (V VN VL Va Vb P Q c x : Nat) (h0 : V = Va * Vb) (h1 : VL + Q * c = V + P * (x * Vb)) (h2 : VN + Q * 0 = VL + Q * c) : VN = (Va + P * x) * Vb := by
  rw [Nat.add_mul, Nat.mul_assoc, ← h0]
  omega
set_option maxRecDepth 100000 in
set_option maxHeartbeats 2000000 in
theorem mulLimbs_any (B : Nat) (va vb : Value) (a b : List Nat) (w : World) (ha : IsL B w va a) (hb : IsL B w vb b) (hla : a.length ≤ 100000) (hlb : b.length ≤ 100000) :
    Calls Tryz.prog 154 #[va, vb] w fun e w' => ∃ v L, e = .returned v ∧ IsL w.heap.size w' v L ∧ val L = val a * val b ∧ L.length ≤ a.length + b.length ∧ isTrim L ∧ Below w.heap.size w w' := by
  obtain ⟨i0, hinf, hz0, hz1, hz2⟩ := info_parts Tryz.info_u32
  obtain ⟨pa, ca, rfl, _⟩ := id ha
  obtain ⟨pb, cb, rfl, _⟩ := id hb
  obtain ⟨_, _, _, haok, hca⟩ := ha.cells
  obtain ⟨_, _, _, hbok, hcb⟩ := hb.cells
  have HA : Hid (∀ i, i < a.length → ∃ b off, pa = some ⟨b, off, none⟩ ∧ b < w.heap.size ∧ w.cell? ⟨b, off + i, none⟩ = some (.int .u32 (a.getD i 0 : Nat))) := hca
  have HB : Hid (∀ i, i < b.length → ∃ c off, pb = some ⟨c, off, none⟩ ∧ c < w.heap.size ∧ w.cell? ⟨c, off + i, none⟩ = some (.int .u32 (b.getD i 0 : Nat))) := hcb
  clear hca hcb ha hb
  go_enter Tryz.func154, Tryz.ntmps154
  go_wp2_with (at_make; refine wpList_make_full _ rfl _ _ 45 rfl w.heap.size 112 i0 (.int .u32 0) 1 Tryz.underlying45 hinf hz0 hz1 .i64 .i64 _ _ (a.length + b.length) rfl rfl ?m0 ?m1 ?m2 ?m3 ?m4 ?_)
  try (case m0 => first | rfl | omega)
  try (case m1 => first | rfl | omega)
  try (case m2 => (first | omega | (rw [hz2]; omega)))
  try (case m3 => (unfold maxLen; omega))
  try (case m4 => exact Nat.le_refl _)
  intro w1 hown hgr
  first | rw [made_zero] at hown | rw [made_zero'] at hown
  have hR : RowT w1 w.heap.size (List.replicate (a.length + b.length) 0) := (row_of_full hown).tail
  have hB1 : Below w.heap.size w w1 := (Below.refl _ _).grown hgr (Nat.le_refl _) (fun k h => by cases h)
  clear hown hgr
  go_wp2
  go_loopw [16] (fun iv wr => ∃ (i : Nat) (L : List Nat), i ≤ a.length ∧ L.length = a.length + b.length ∧ okL L ∧ RowT wr w.heap.size L ∧ (∀ j, i + b.length ≤ j → L.getD j 0 = 0) ∧ iv = .int .i64 i ∧
      val L = val (a.take i) * val b ∧ Below w.heap.size w wr) (fun iv _ => a.length - (intOf iv).toNat)
  case atStart => exact ⟨0, _, by omega, by simp, fun x hx => by rw [List.eq_of_mem_replicate hx]; omega, hR, fun j hj => by simp [List.getD_eq_getElem?_getD, List.getElem?_replicate]; split <;> rfl, rfl, by simp [val_replicate, val], hB1⟩
  case round =>
    clear hR hB1
    obtain ⟨i, L, hi, hLl, hLok, hR, hzr, rfl, hval, hB⟩ := hrel
    by_cases hia : i < a.length
    · obtain ⟨ba, oa, rfl, hla', hca⟩ := HA.out i hia
      rw [← hB.cell (p := ⟨ba, oa + i, none⟩) hla'] at hca
      have hxb := okL_getD a haok i hia
      have HVT : Hid (val (a.take (i + 1)) = val (a.take i) + 1000000000 ^ i * a.getD i 0) := val_take_succ a i
      obtain ⟨x, hx⟩ : ∃ x, a.getD i 0 = x := ⟨_, rfl⟩
      rw [hx] at hca hxb HVT
      have HR : Hid (RowT wr w.heap.size L) := hR
      have HZR : Hid (∀ j, i + b.length ≤ j → L.getD j 0 = 0) := hzr
      have HV : Hid (val L = val (a.take i) * val b) := hval
      have HBR : Hid (Below w.heap.size w wr) := hB
      have HOK : Hid (okL L) := hLok
      clear hR hzr hval hB hLok hx
      go_wp2_with fail
      refine (addScaled_any w.heap.size i _ x _ pb cb L b _ HR.out HOK.out (by omega) (by omega) hbok rfl (by omega) hxb ?_).mono ?_
      · intro k hk
        obtain ⟨c, off, e, hc, hcl⟩ := HB.out k hk
        exact ⟨c, off, e, hc, by rw [HBR.out.cell (p := ⟨c, off + k, none⟩) hc]; exact hcl⟩
      rintro e w3 ⟨c, N, rfl, hR3, hN3, hok3, hdr, hc, hv3, hb3⟩
      have hcell := hR3.cell (i + b.length) (by omega)
      have hfr := hR3.frozen (i + b.length)
      have h0 : N.getD (i + b.length) 0 = 0 := (getD_of_drop N L (i + b.length) _ hdr (Nat.le_refl _)).trans (HZR.out _ (Nat.le_refl _))
      have hvs := val_set N (i + b.length) c (by omega)
      rw [h0] at hvs
      have HV4 : Hid (val (N.set (i + b.length) c) = val (a.take (i + 1)) * val b) := by
        show val (N.set (i + b.length) c) = val (a.take (i + 1)) * val b
        rw [HVT.out]
        exact mul_step _ _ _ _ _ _ _ c x HV.out hv3 hvs
      have HR4 : Hid (RowT (w3.setCell ⟨w.heap.size, i + b.length, none⟩ (.int .u32 (c : Nat))) w.heap.size (N.set (i + b.length) c)) := hR3.set _ _ (by omega)
      have HB4 : Hid (Below w.heap.size w (w3.setCell ⟨w.heap.size, i + b.length, none⟩ (.int .u32 (c : Nat)))) := (HBR.out.trans hb3).setCell (Nat.le_refl _) _
      have HOK4 : Hid (okL (N.set (i + b.length) c) ∧ (N.set (i + b.length) c).length = a.length + b.length) := ⟨okL_set N hok3 _ _ (by omega), by simp; omega⟩
      have HZ4 : Hid (∀ j, i + 1 + b.length ≤ j → (N.set (i + b.length) c).getD j 0 = 0) := fun j hj => by
        rw [getD_set_ne _ _ _ _ (by omega), getD_of_drop N L (i + b.length) j hdr (by omega)]
        exact HZR.out j (by omega)
      have hcc : c < 1000000000 := by omega
      clear hR3 hN3 hok3 hdr hc hv3 hb3 h0 hvs
      go_wp2
      go_roundw
      case rel => exact ⟨i + 1, N.set (i + b.length) c, by omega, HOK4.out.2, HOK4.out.1, HR4.out, HZ4.out, by go_num, HV4.out, HB4.out⟩
      case measure => simp [intOf]; omega
    · obtain rfl : i = a.length := by omega
      rw [List.take_of_length_le (Nat.le_refl _)] at hval
      have hI : IsL w.heap.size wr (.slice (some ⟨w.heap.size, 0, none⟩) (a.length + b.length) (a.length + b.length)) L := by
        have h := hR.isL (B := w.heap.size) (cap := a.length + b.length) (Nat.le_refl _) hLok (by omega) (by unfold maxLen; omega)
        rw [hLl] at h
        exact h
      have HI : Hid (IsL w.heap.size wr (.slice (some ⟨w.heap.size, 0, none⟩) (a.length + b.length) (a.length + b.length)) L) := hI
      have HT : Hid (val (trimL L) = val a * val b ∧ (trimL L).length ≤ a.length + b.length ∧ isTrim (trimL L)) := ⟨by rw [val_trimL]; exact hval, by have := trimL_len L; omega, trimL_trim _⟩
      have HBE : Hid (Below w.heap.size w wr) := hB
      clear hval hR hB hLok hzr hI
      go_wp2_with fail
      refine (trimLimbs_any w.heap.size _ L _ HI.out).mono ?_
      rintro e w5 ⟨v, rfl, hcut, rfl⟩
      have HW : Hid (IsL w.heap.size w5 v (trimL L)) := hcut _ _ HI.out
      obtain ⟨pv, cv, hv, _⟩ := HW.out
      subst hv
      clear hcut
      go_wp2
      go_ret
      exact ⟨_, _, rfl, HW.out, HT.out.1, HT.out.2.1, HT.out.2.2, HBE.out⟩
end Go.Proofs.YtpjnglcojamfmaaGreatDoor
