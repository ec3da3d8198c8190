import Derived.Test.YtfhgfclfhghlcaaDoorAddD
namespace Go.Proofs.YtfhgfclfhghlcaaDoor
open Go.ChangeShapes Go.WideShapes Go.ChangeAt Go.RowKit
theorem sub_step (P A Bv La c x y d c' : Nat) (h : La + Bv = A + P * c) (hd : d + c + y = x + 1000000000 * c') : La + P * d + (Bv + P * y) = A + P * x + P * 1000000000 * c' := by
  have h1 : P * (d + c + y) = P * (x + 1000000000 * c') := by rw [hd]
  rw [Nat.mul_add, Nat.mul_add, Nat.mul_add, ← Nat.mul_assoc] at h1
  omega
theorem sub_end (P c A Bv V : Nat) (h : V + Bv = A + P * c) (hV : V < P) (hB : Bv ≤ A) : V + Bv = A := by
  cases c with
  | zero => rw [Nat.mul_zero] at h; omega
  | succ c =>
    rw [Nat.mul_succ] at h
    generalize P * c = X at h
    omega
set_option maxRecDepth 100000 in
set_option maxHeartbeats 2000000 in
theorem l1SubD_any (B : Nat) (va vb : Value) (a b : List Nat) (w : World) (ha : IsL B w va a) (hb : IsL B w vb b) (hla : a.length ≤ 1000000) (hlb : b.length ≤ a.length) (hle : val b ≤ val a) :
    Calls Tryd.prog 54 #[va, vb] w fun e w' => ∃ v L, e = .returned v ∧ IsL w.heap.size w' v L ∧ val L + val b = val a ∧ Below w.heap.size w w' := by
  obtain ⟨i0, hinf, hz0, hz1, hz2⟩ := info_parts Tryd.info_u32
  obtain ⟨pa, ca, rfl, _⟩ := id ha
  obtain ⟨pb, cb, rfl, _⟩ := id hb
  obtain ⟨_, _, _, haok, hca⟩ := ha.cells
  obtain ⟨_, _, _, hbok, hcb⟩ := hb.cells
  have HA : Hid (∀ i, i < a.length → ∃ b off, pa = some ⟨b, off, none⟩ ∧ b < w.heap.size ∧ w.cell? ⟨b, off + i, none⟩ = some (.int .u32 (a.getD i 0 : Nat))) := hca
  have HB : Hid (∀ i, i < b.length → ∃ c off, pb = some ⟨c, off, none⟩ ∧ c < w.heap.size ∧ w.cell? ⟨c, off + i, none⟩ = some (.int .u32 (b.getD i 0 : Nat))) := hcb
  have HLE : Hid (val b ≤ val a) := hle
  clear hca hcb ha hb hle
  go_enter Tryd.func54, Tryd.ntmps54
  go_wp2_with (at_make; refine wpList_make_full _ rfl _ _ 32 rfl w.heap.size 60 i0 (.int .u32 0) 1 Tryd.underlying32 hinf hz0 hz1 .i64 .i64 _ _ a.length rfl rfl ?m0 ?m1 ?m2 ?m3 ?m4 ?_)
  try (case m0 => first | rfl | omega)
  try (case m1 => first | rfl | omega)
  try (case m2 => (first | omega | (rw [hz2]; omega)))
  try (case m3 => (unfold maxLen; omega))
  try (case m4 => exact Nat.le_refl _)
  intro w1 hown hgr
  first | rw [made_zero] at hown | rw [made_zero'] at hown
  have hR : Row w1 w.heap.size (List.replicate a.length 0) := row_of_full hown
  have hB1 : Below w.heap.size w w1 := (Below.refl _ _).grown hgr (Nat.le_refl _) (fun k h => by cases h)
  clear hown hgr
  go_wp2
  go_loopw [6, 14] (fun cv iv wr => ∃ (i c : Nat) (L : List Nat), i ≤ a.length ∧ c ≤ 1 ∧ L.length = a.length ∧ okL L ∧ Row wr w.heap.size L ∧ cv = .int .i64 (c : Nat) ∧ iv = .int .i64 i ∧
      val (L.take i) + val (b.take i) = val (a.take i) + 1000000000 ^ i * c ∧ Below w.heap.size w wr) (fun _ iv _ => a.length - (intOf iv).toNat)
  case atStart => exact ⟨0, 0, _, by omega, by omega, by simp, fun x hx => by rw [List.eq_of_mem_replicate hx]; omega, hR, rfl, rfl, by simp [val], hB1⟩
  case round =>
    clear hR hB1
    obtain ⟨i, c, L, hi, hc, hLl, hLok, hR, rfl, rfl, hval, hB⟩ := hrel
    by_cases hin : i < a.length
    · obtain ⟨ba, oa, rfl, hla', hca⟩ := HA.out i hin
      rw [← hB.cell (p := ⟨ba, oa + i, none⟩) hla'] at hca
      have hxb := okL_getD a haok i hin
      obtain ⟨x, hx⟩ : ∃ x, a.getD i 0 = x := ⟨_, rfl⟩
      rw [hx] at hca hxb
      by_cases hib : i < b.length
      · obtain ⟨bb, ob, rfl, hlb', hcb⟩ := HB.out i hib
        rw [← hB.cell (p := ⟨bb, ob + i, none⟩) hlb'] at hcb
        have hyb := okL_getD b hbok i hib
        obtain ⟨y, hy⟩ : ∃ y, b.getD i 0 = y := ⟨_, rfl⟩
        rw [hy] at hcb hyb
        by_cases hbor : x < c + y
        · have hst := sub_step (1000000000 ^ i) _ _ _ c x y (x + 1000000000 - c - y) 1 hval (by omega)
          have HST : Hid (val ((L.set i (x + 1000000000 - c - y)).take (i + 1)) + val (b.take (i + 1)) = val (a.take (i + 1)) + 1000000000 ^ (i + 1) * 1) := by
            show val ((L.set i (x + 1000000000 - c - y)).take (i + 1)) + val (b.take (i + 1)) = val (a.take (i + 1)) + 1000000000 ^ (i + 1) * 1
            rw [val_take_set L i _ (by omega), val_take_succ, val_take_succ, hx, hy, Nat.pow_succ]
            exact hst
          have hcell := hR.cell i (by omega)
          have hfr := hR.frozen i
          have HR2 : Hid (Row (wr.setCell ⟨w.heap.size, i, none⟩ (.int .u32 (((x + 1000000000 - c - y) : Nat) : Int))) w.heap.size (L.set i (x + 1000000000 - c - y))) := hR.set i _
          have HB2 : Hid (∀ u, Below w.heap.size w (wr.setCell ⟨w.heap.size, i, none⟩ u)) := fun u => hB.setCell (Nat.le_refl _) u
          have HOK : Hid (okL (L.set i (x + 1000000000 - c - y))) := okL_set L hLok i _ (by omega)
          clear hst hval hx hy hR hB hLok
          go_wp2
          go_roundw
          case rel =>
            refine ⟨i + 1, 1, L.set i (x + 1000000000 - c - y), by omega, by omega, by simp [hLl], HOK.out, ?_, rfl, by go_num, HST.out, HB2.out _⟩
            have h := HR2.out
            rw [show ((((x + 1000000000 - c - y)) : Nat) : Int) = _ from ?_] at h
            · exact h
            · omega
          case measure => simp [intOf]; omega
        · have hst := sub_step (1000000000 ^ i) _ _ _ c x y (x - c - y) 0 hval (by omega)
          have HST : Hid (val ((L.set i (x - c - y)).take (i + 1)) + val (b.take (i + 1)) = val (a.take (i + 1)) + 1000000000 ^ (i + 1) * 0) := by
            show val ((L.set i (x - c - y)).take (i + 1)) + val (b.take (i + 1)) = val (a.take (i + 1)) + 1000000000 ^ (i + 1) * 0
            rw [val_take_set L i _ (by omega), val_take_succ, val_take_succ, hx, hy, Nat.pow_succ]
            exact hst
          have hcell := hR.cell i (by omega)
          have hfr := hR.frozen i
          have HR2 : Hid (Row (wr.setCell ⟨w.heap.size, i, none⟩ (.int .u32 (((x - c - y) : Nat) : Int))) w.heap.size (L.set i (x - c - y))) := hR.set i _
          have HB2 : Hid (∀ u, Below w.heap.size w (wr.setCell ⟨w.heap.size, i, none⟩ u)) := fun u => hB.setCell (Nat.le_refl _) u
          have HOK : Hid (okL (L.set i (x - c - y))) := okL_set L hLok i _ (by omega)
          clear hst hval hx hy hR hB hLok
          go_wp2
          go_roundw
          case rel =>
            refine ⟨i + 1, 0, L.set i (x - c - y), by omega, by omega, by simp [hLl], HOK.out, ?_, rfl, by go_num, HST.out, HB2.out _⟩
            have h := HR2.out
            rw [show ((((x - c - y)) : Nat) : Int) = _ from ?_] at h
            · exact h
            · omega
          case measure => simp [intOf]; omega
      · have hy0 : b.getD i 0 = 0 := by rw [List.getD_eq_getElem?_getD, List.getElem?_eq_none (by omega)]; rfl
        by_cases hbor : x < c
        · have hst := sub_step (1000000000 ^ i) _ _ _ c x 0 (x + 1000000000 - c) 1 hval (by omega)
          have HST : Hid (val ((L.set i (x + 1000000000 - c)).take (i + 1)) + val (b.take (i + 1)) = val (a.take (i + 1)) + 1000000000 ^ (i + 1) * 1) := by
            show val ((L.set i (x + 1000000000 - c)).take (i + 1)) + val (b.take (i + 1)) = val (a.take (i + 1)) + 1000000000 ^ (i + 1) * 1
            rw [val_take_set L i _ (by omega), val_take_succ, val_take_succ, hx, hy0, Nat.pow_succ]
            exact hst
          have hcell := hR.cell i (by omega)
          have hfr := hR.frozen i
          have HR2 : Hid (Row (wr.setCell ⟨w.heap.size, i, none⟩ (.int .u32 (((x + 1000000000 - c) : Nat) : Int))) w.heap.size (L.set i (x + 1000000000 - c))) := hR.set i _
          have HB2 : Hid (∀ u, Below w.heap.size w (wr.setCell ⟨w.heap.size, i, none⟩ u)) := fun u => hB.setCell (Nat.le_refl _) u
          have HOK : Hid (okL (L.set i (x + 1000000000 - c))) := okL_set L hLok i _ (by omega)
          clear hst hval hx hy0 hR hB hLok
          go_wp2
          go_roundw
          case rel =>
            refine ⟨i + 1, 1, L.set i (x + 1000000000 - c), by omega, by omega, by simp [hLl], HOK.out, ?_, rfl, by go_num, HST.out, HB2.out _⟩
            have h := HR2.out
            rw [show ((((x + 1000000000 - c)) : Nat) : Int) = _ from ?_] at h
            · exact h
            · omega
          case measure => simp [intOf]; omega
        · have hst := sub_step (1000000000 ^ i) _ _ _ c x 0 (x - c) 0 hval (by omega)
          have HST : Hid (val ((L.set i (x - c)).take (i + 1)) + val (b.take (i + 1)) = val (a.take (i + 1)) + 1000000000 ^ (i + 1) * 0) := by
            show val ((L.set i (x - c)).take (i + 1)) + val (b.take (i + 1)) = val (a.take (i + 1)) + 1000000000 ^ (i + 1) * 0
            rw [val_take_set L i _ (by omega), val_take_succ, val_take_succ, hx, hy0, Nat.pow_succ]
            exact hst
          have hcell := hR.cell i (by omega)
          have hfr := hR.frozen i
          have HR2 : Hid (Row (wr.setCell ⟨w.heap.size, i, none⟩ (.int .u32 (((x - c) : Nat) : Int))) w.heap.size (L.set i (x - c))) := hR.set i _
          have HB2 : Hid (∀ u, Below w.heap.size w (wr.setCell ⟨w.heap.size, i, none⟩ u)) := fun u => hB.setCell (Nat.le_refl _) u
          have HOK : Hid (okL (L.set i (x - c))) := okL_set L hLok i _ (by omega)
          clear hst hval hx hy0 hR hB hLok
          go_wp2
          go_roundw
          case rel =>
            refine ⟨i + 1, 0, L.set i (x - c), by omega, by omega, by simp [hLl], HOK.out, ?_, rfl, by go_num, HST.out, HB2.out _⟩
            have h := HR2.out
            rw [show ((((x - c)) : Nat) : Int) = _ from ?_] at h
            · exact h
            · omega
          case measure => simp [intOf]; omega
    · obtain rfl : i = a.length := by omega
      have hE := sub_end (1000000000 ^ a.length) c _ _ _ hval (by rw [List.take_of_length_le (by omega)]; exact val_lt_of L hLok _ (by omega)) (by rw [List.take_of_length_le (by omega), List.take_of_length_le (by omega)]; exact HLE.out)
      rw [List.take_of_length_le (by omega), List.take_of_length_le (by omega), List.take_of_length_le (by omega)] at hE
      have HE : Hid (val L + val b = val a) := hE
      have HL : Hid (IsL w.heap.size wr (.slice (some ⟨w.heap.size, 0, none⟩) a.length a.length) L) := by
        have := hR.isL (B := w.heap.size) (cap := a.length) (Nat.le_refl _) hLok (by omega) (by unfold maxLen; omega)
        rw [hLl] at this
        exact this
      have HBE : Hid (Below w.heap.size w wr) := hB
      clear hE hval hR hB hLok
      go_wp2
      go_ret
      exact ⟨_, L, rfl, HL.out, HE.out, HBE.out⟩
end Go.Proofs.YtfhgfclfhghlcaaDoor
