import Derived.Test.YtfhgfclfhghlcaaDoorRowW
import Derived.Test.YtfhgfclfhghlcaaDoorReadImpl
namespace Go.Proofs.YtfhgfclfhghlcaaDoor
open Go.ChangeShapes Go.WideShapes Go.ChangeAt Go.RowKit
theorem limb_step (P s : Nat) : P * (s % 1000000000) + P * 1000000000 * (s / 1000000000) = P * s := by
  rw [Nat.mul_assoc, ← Nat.mul_add, Nat.add_comm, Nat.div_add_mod]
theorem made_zero' (n : Nat) : (madeCells #[Value.int .u32 0] n).toList = U32s (List.replicate n 0) := by
  rw [toList_madeCells_one]
  simp [U32s]
theorem okL_getD (t : List Nat) (h : okL t) (i : Nat) (hi : i < t.length) : t.getD i 0 < 1000000000 := by
  rw [List.getD_eq_getElem?_getD, List.getElem?_eq_getElem hi]
  exact h _ (List.getElem_mem _)
theorem add_step (P A Bv La c x y : Nat) (h : La + P * c = A + Bv) : La + P * ((c + x + y) % 1000000000) + P * 1000000000 * ((c + x + y) / 1000000000) = A + P * x + (Bv + P * y) := by
  have h1 := limb_step P (c + x + y)
  rw [Nat.mul_add, Nat.mul_add] at h1
  omega
theorem add_end (P Q c A Bv V : Nat) (hQ : Q = P * 1000000000) (h : V + Q * c = A + Bv) (hA : A < P) (hB : Bv < P) : V = A + Bv := by
  cases c with
  | zero => rw [Nat.mul_zero] at h; omega
  | succ c =>
    rw [Nat.mul_succ] at h
    generalize Q * c = X at h
    omega
theorem val_lt_of (a : List Nat) (h : okL a) (n : Nat) (hn : a.length ≤ n) : val a < 1000000000 ^ n := Nat.lt_of_lt_of_le (val_lt a h) (Nat.pow_le_pow_right (by decide) hn)
set_option maxRecDepth 100000 in
set_option maxHeartbeats 2000000 in
theorem l1AddD_any (B : Nat) (va vb : Value) (a b : List Nat) (w : World) (ha : IsL B w va a) (hb : IsL B w vb b) (hla : a.length ≤ 1000000) (hlb : b.length ≤ 1000000) :
    Calls Tryd.prog 52 #[va, vb] w fun e w' => ∃ v L, e = .returned v ∧ IsL w.heap.size w' v L ∧ val L = val a + val b ∧ Below w.heap.size w w' := by
  obtain ⟨i0, hinf, hz0, hz1, hz2⟩ := info_parts Tryd.info_u32
  obtain ⟨pa, ca, rfl, _⟩ := id ha
  obtain ⟨pb, cb, rfl, _⟩ := id hb
  obtain ⟨_, _, _, haok, hca⟩ := ha.cells
  obtain ⟨_, _, _, hbok, hcb⟩ := hb.cells
  have HA : Hid (∀ i, i < a.length → ∃ b off, pa = some ⟨b, off, none⟩ ∧ b < w.heap.size ∧ w.cell? ⟨b, off + i, none⟩ = some (.int .u32 (a.getD i 0 : Nat))) := hca
  have HB : Hid (∀ i, i < b.length → ∃ c off, pb = some ⟨c, off, none⟩ ∧ c < w.heap.size ∧ w.cell? ⟨c, off + i, none⟩ = some (.int .u32 (b.getD i 0 : Nat))) := hcb
  clear hca hcb ha hb
  by_cases hl : a.length < b.length
  · have z : decide ((a.length : Int) < b.length) = true := by rw [decide_eq_true_iff]; omega
    go_enter Tryd.func52, Tryd.ntmps52
    go_wp2_with (at_make; refine wpList_make_full _ rfl _ _ 32 rfl w.heap.size 60 i0 (.int .u32 0) 1 Tryd.underlying32 hinf hz0 hz1 .i64 .i64 _ _ (b.length + 1) rfl rfl ?pm0 ?pm1 ?pm2 ?pm3 ?pm4 ?_)
    try (case pm0 => omega)
    try (case pm1 => omega)
    try (case pm2 => (first | omega | (rw [hz2]; omega)))
    try (case pm3 => (unfold maxLen; omega))
    try (case pm4 => exact Nat.le_refl _)
    intro w1 hown hgr
    first | rw [made_zero] at hown | rw [made_zero'] at hown
    have hR : Row w1 w.heap.size (List.replicate (b.length + 1) 0) := row_of_full hown
    have hB1 : Below w.heap.size w w1 := (Below.refl _ _).grown hgr (Nat.le_refl _) (fun k h => by cases h)
    clear hown hgr
    go_wp2
    go_loopw [7, 8] (fun cv iv wr => ∃ (i c : Nat) (L : List Nat), i ≤ b.length + 1 ∧ c ≤ 1 ∧ L.length = b.length + 1 ∧ okL L ∧ Row wr w.heap.size L ∧ cv = .int .u64 (c : Nat) ∧ iv = .int .i64 i ∧
        val (L.take i) + 1000000000 ^ i * c = val (a.take i) + val (b.take i) ∧ Below w.heap.size w wr) (fun _ iv _ => b.length + 1 - (intOf iv).toNat)
    case atStart => exact ⟨0, 0, _, by omega, by omega, by simp, fun x hx => by rw [List.eq_of_mem_replicate hx]; omega, hR, rfl, rfl, by simp [val], hB1⟩
    case round =>
      clear hR hB1
      obtain ⟨i, c, L, hi, hc, hLl, hLok, hR, rfl, rfl, hval, hB⟩ := hrel
      by_cases hin : i ≤ b.length
      · by_cases hia : i < a.length
        · by_cases hib : i < b.length
          · obtain ⟨ba, oa, rfl, hla', hca⟩ := HA.out i hia
            rw [← hB.cell (p := ⟨ba, oa + i, none⟩) hla'] at hca
            have hxb := okL_getD a haok i hia
            obtain ⟨bb, ob, rfl, hlb', hcb⟩ := HB.out i hib
            rw [← hB.cell (p := ⟨bb, ob + i, none⟩) hlb'] at hcb
            have hyb := okL_getD b hbok i hib
            have hst := add_step (1000000000 ^ i) _ _ _ c (a.getD i 0) (b.getD i 0) hval
            rw [← val_take_succ, ← val_take_succ] at hst
            obtain ⟨x, hx⟩ : ∃ x, a.getD i 0 = x := ⟨_, rfl⟩
            rw [hx] at hca hxb hst
            obtain ⟨y, hy⟩ : ∃ y, b.getD i 0 = y := ⟨_, rfl⟩
            rw [hy] at hcb hyb hst
            have HST : Hid (val ((L.set i ((c + x + y) % 1000000000)).take (i + 1)) + 1000000000 ^ (i + 1) * ((c + x + y) / 1000000000) = val (a.take (i + 1)) + val (b.take (i + 1))) := by
              show val ((L.set i ((c + x + y) % 1000000000)).take (i + 1)) + 1000000000 ^ (i + 1) * ((c + x + y) / 1000000000) = val (a.take (i + 1)) + val (b.take (i + 1))
              rw [val_take_set L i _ (by omega), Nat.pow_succ]
              exact hst
            clear hst hval hx hy
            obtain ⟨s, hs⟩ : ∃ s, c + x + y = s := ⟨_, rfl⟩
            have hsb : s < 2000000000 := by omega
            rw [hs] at HST
            have hcell := hR.cell i (by omega)
            have hfr := hR.frozen i
            have HR2 : Hid (Row (wr.setCell ⟨w.heap.size, i, none⟩ (.int .u32 ((s % 1000000000 : Nat) : Int))) w.heap.size (L.set i (s % 1000000000))) := hR.set i _
            have HB2 : Hid (∀ u, Below w.heap.size w (wr.setCell ⟨w.heap.size, i, none⟩ u)) := fun u => hB.setCell (Nat.le_refl _) u
            have HOK : Hid (okL (L.set i (s % 1000000000))) := okL_set L hLok i _ (Nat.mod_lt _ (by decide))
            have HSS : Hid (c + x + y = s) := hs
            clear hR hB hs hLok
            go_wp2
            go_roundw
            case rel =>
              refine ⟨i + 1, s / 1000000000, L.set i (s % 1000000000), by omega, by omega, by simp [hLl], HOK.out, ?_, val_int (by rw [← HSS.out]; simp), by go_num, HST.out, HB2.out _⟩
              have h := HR2.out
              rw [← HSS.out] at h ⊢
              simpa using h
            case measure => simp [intOf]; omega
          · exfalso; omega
        · by_cases hib : i < b.length
          · have hx0 : a.getD i 0 = 0 := by rw [List.getD_eq_getElem?_getD, List.getElem?_eq_none (by omega)]; rfl
            obtain ⟨bb, ob, rfl, hlb', hcb⟩ := HB.out i hib
            rw [← hB.cell (p := ⟨bb, ob + i, none⟩) hlb'] at hcb
            have hyb := okL_getD b hbok i hib
            have hst := add_step (1000000000 ^ i) _ _ _ c (a.getD i 0) (b.getD i 0) hval
            rw [← val_take_succ, ← val_take_succ] at hst
            rw [hx0, Nat.add_zero] at hst
            obtain ⟨y, hy⟩ : ∃ y, b.getD i 0 = y := ⟨_, rfl⟩
            rw [hy] at hcb hyb hst
            have HST : Hid (val ((L.set i ((c + y) % 1000000000)).take (i + 1)) + 1000000000 ^ (i + 1) * ((c + y) / 1000000000) = val (a.take (i + 1)) + val (b.take (i + 1))) := by
              show val ((L.set i ((c + y) % 1000000000)).take (i + 1)) + 1000000000 ^ (i + 1) * ((c + y) / 1000000000) = val (a.take (i + 1)) + val (b.take (i + 1))
              rw [val_take_set L i _ (by omega), Nat.pow_succ]
              exact hst
            clear hst hval hy
            obtain ⟨s, hs⟩ : ∃ s, c + y = s := ⟨_, rfl⟩
            have hsb : s < 2000000000 := by omega
            rw [hs] at HST
            have hcell := hR.cell i (by omega)
            have hfr := hR.frozen i
            have HR2 : Hid (Row (wr.setCell ⟨w.heap.size, i, none⟩ (.int .u32 ((s % 1000000000 : Nat) : Int))) w.heap.size (L.set i (s % 1000000000))) := hR.set i _
            have HB2 : Hid (∀ u, Below w.heap.size w (wr.setCell ⟨w.heap.size, i, none⟩ u)) := fun u => hB.setCell (Nat.le_refl _) u
            have HOK : Hid (okL (L.set i (s % 1000000000))) := okL_set L hLok i _ (Nat.mod_lt _ (by decide))
            have HSS : Hid (c + y = s) := hs
            clear hR hB hs hLok
            go_wp2
            go_roundw
            case rel =>
              refine ⟨i + 1, s / 1000000000, L.set i (s % 1000000000), by omega, by omega, by simp [hLl], HOK.out, ?_, val_int (by rw [← HSS.out]; simp), by go_num, HST.out, HB2.out _⟩
              have h := HR2.out
              rw [← HSS.out] at h ⊢
              simpa using h
            case measure => simp [intOf]; omega
          · have hx0 : a.getD i 0 = 0 := by rw [List.getD_eq_getElem?_getD, List.getElem?_eq_none (by omega)]; rfl
            have hy0 : b.getD i 0 = 0 := by rw [List.getD_eq_getElem?_getD, List.getElem?_eq_none (by omega)]; rfl
            have hst := add_step (1000000000 ^ i) _ _ _ c (a.getD i 0) (b.getD i 0) hval
            rw [← val_take_succ, ← val_take_succ] at hst
            rw [hx0, Nat.add_zero] at hst
            rw [hy0, Nat.add_zero] at hst
            have HST : Hid (val ((L.set i ((c) % 1000000000)).take (i + 1)) + 1000000000 ^ (i + 1) * ((c) / 1000000000) = val (a.take (i + 1)) + val (b.take (i + 1))) := by
              show val ((L.set i ((c) % 1000000000)).take (i + 1)) + 1000000000 ^ (i + 1) * ((c) / 1000000000) = val (a.take (i + 1)) + val (b.take (i + 1))
              rw [val_take_set L i _ (by omega), Nat.pow_succ]
              exact hst
            clear hst hval
            obtain ⟨s, hs⟩ : ∃ s, c = s := ⟨_, rfl⟩
            have hsb : s < 2000000000 := by omega
            rw [hs] at HST
            have hcell := hR.cell i (by omega)
            have hfr := hR.frozen i
            have HR2 : Hid (Row (wr.setCell ⟨w.heap.size, i, none⟩ (.int .u32 ((s % 1000000000 : Nat) : Int))) w.heap.size (L.set i (s % 1000000000))) := hR.set i _
            have HB2 : Hid (∀ u, Below w.heap.size w (wr.setCell ⟨w.heap.size, i, none⟩ u)) := fun u => hB.setCell (Nat.le_refl _) u
            have HOK : Hid (okL (L.set i (s % 1000000000))) := okL_set L hLok i _ (Nat.mod_lt _ (by decide))
            have HSS : Hid (c = s) := hs
            clear hR hB hs hLok
            go_wp2
            go_roundw
            case rel =>
              refine ⟨i + 1, s / 1000000000, L.set i (s % 1000000000), by omega, by omega, by simp [hLl], HOK.out, ?_, val_int (by rw [← HSS.out]; simp), by go_num, HST.out, HB2.out _⟩
              have h := HR2.out
              rw [← HSS.out] at h ⊢
              simpa using h
            case measure => simp [intOf]; omega
      · obtain rfl : i = b.length + 1 := by omega
        have hE := add_end (1000000000 ^ (b.length)) _ c _ _ _ (Nat.pow_succ ..) hval (by rw [List.take_of_length_le (by omega)]; exact val_lt_of a haok _ (by omega)) (by rw [List.take_of_length_le (by omega)]; exact val_lt_of b hbok _ (by omega))
        rw [List.take_of_length_le (by omega), List.take_of_length_le (by omega), List.take_of_length_le (by omega)] at hE
        have HE : Hid (val L = val a + val b) := hE
        have HL : Hid (IsL w.heap.size wr (.slice (some ⟨w.heap.size, 0, none⟩) (b.length + 1) (b.length + 1)) L) := by
          have := hR.isL (B := w.heap.size) (cap := b.length + 1) (Nat.le_refl _) hLok (by omega) (by unfold maxLen; omega)
          rw [hLl] at this
          exact this
        have HBE : Hid (Below w.heap.size w wr) := hB
        clear hE hval hR hB hLok
        go_wp2
        go_ret
        exact ⟨_, L, rfl, HL.out, HE.out, HBE.out⟩
  · have z : decide ((a.length : Int) < b.length) = false := by rw [decide_eq_false_iff_not]; omega
    go_enter Tryd.func52, Tryd.ntmps52
    go_wp2_with (at_make; refine wpList_make_full _ rfl _ _ 32 rfl w.heap.size 60 i0 (.int .u32 0) 1 Tryd.underlying32 hinf hz0 hz1 .i64 .i64 _ _ (a.length + 1) rfl rfl ?qm0 ?qm1 ?qm2 ?qm3 ?qm4 ?_)
    try (case qm0 => omega)
    try (case qm1 => omega)
    try (case qm2 => (first | omega | (rw [hz2]; omega)))
    try (case qm3 => (unfold maxLen; omega))
    try (case qm4 => exact Nat.le_refl _)
    intro w1 hown hgr
    first | rw [made_zero] at hown | rw [made_zero'] at hown
    have hR : Row w1 w.heap.size (List.replicate (a.length + 1) 0) := row_of_full hown
    have hB1 : Below w.heap.size w w1 := (Below.refl _ _).grown hgr (Nat.le_refl _) (fun k h => by cases h)
    clear hown hgr
    go_wp2
    go_loopw [7, 8] (fun cv iv wr => ∃ (i c : Nat) (L : List Nat), i ≤ a.length + 1 ∧ c ≤ 1 ∧ L.length = a.length + 1 ∧ okL L ∧ Row wr w.heap.size L ∧ cv = .int .u64 (c : Nat) ∧ iv = .int .i64 i ∧
        val (L.take i) + 1000000000 ^ i * c = val (a.take i) + val (b.take i) ∧ Below w.heap.size w wr) (fun _ iv _ => a.length + 1 - (intOf iv).toNat)
    case atStart => exact ⟨0, 0, _, by omega, by omega, by simp, fun x hx => by rw [List.eq_of_mem_replicate hx]; omega, hR, rfl, rfl, by simp [val], hB1⟩
    case round =>
      clear hR hB1
      obtain ⟨i, c, L, hi, hc, hLl, hLok, hR, rfl, rfl, hval, hB⟩ := hrel
      by_cases hin : i ≤ a.length
      · by_cases hia : i < a.length
        · by_cases hib : i < b.length
          · obtain ⟨ba, oa, rfl, hla', hca⟩ := HA.out i hia
            rw [← hB.cell (p := ⟨ba, oa + i, none⟩) hla'] at hca
            have hxb := okL_getD a haok i hia
            obtain ⟨bb, ob, rfl, hlb', hcb⟩ := HB.out i hib
            rw [← hB.cell (p := ⟨bb, ob + i, none⟩) hlb'] at hcb
            have hyb := okL_getD b hbok i hib
            have hst := add_step (1000000000 ^ i) _ _ _ c (a.getD i 0) (b.getD i 0) hval
            rw [← val_take_succ, ← val_take_succ] at hst
            obtain ⟨x, hx⟩ : ∃ x, a.getD i 0 = x := ⟨_, rfl⟩
            rw [hx] at hca hxb hst
            obtain ⟨y, hy⟩ : ∃ y, b.getD i 0 = y := ⟨_, rfl⟩
            rw [hy] at hcb hyb hst
            have HST : Hid (val ((L.set i ((c + x + y) % 1000000000)).take (i + 1)) + 1000000000 ^ (i + 1) * ((c + x + y) / 1000000000) = val (a.take (i + 1)) + val (b.take (i + 1))) := by
              show val ((L.set i ((c + x + y) % 1000000000)).take (i + 1)) + 1000000000 ^ (i + 1) * ((c + x + y) / 1000000000) = val (a.take (i + 1)) + val (b.take (i + 1))
              rw [val_take_set L i _ (by omega), Nat.pow_succ]
              exact hst
            clear hst hval hx hy
            obtain ⟨s, hs⟩ : ∃ s, c + x + y = s := ⟨_, rfl⟩
            have hsb : s < 2000000000 := by omega
            rw [hs] at HST
            have hcell := hR.cell i (by omega)
            have hfr := hR.frozen i
            have HR2 : Hid (Row (wr.setCell ⟨w.heap.size, i, none⟩ (.int .u32 ((s % 1000000000 : Nat) : Int))) w.heap.size (L.set i (s % 1000000000))) := hR.set i _
            have HB2 : Hid (∀ u, Below w.heap.size w (wr.setCell ⟨w.heap.size, i, none⟩ u)) := fun u => hB.setCell (Nat.le_refl _) u
            have HOK : Hid (okL (L.set i (s % 1000000000))) := okL_set L hLok i _ (Nat.mod_lt _ (by decide))
            have HSS : Hid (c + x + y = s) := hs
            clear hR hB hs hLok
            go_wp2
            go_roundw
            case rel =>
              refine ⟨i + 1, s / 1000000000, L.set i (s % 1000000000), by omega, by omega, by simp [hLl], HOK.out, ?_, val_int (by rw [← HSS.out]; simp), by go_num, HST.out, HB2.out _⟩
              have h := HR2.out
              rw [← HSS.out] at h ⊢
              simpa using h
            case measure => simp [intOf]; omega
          · obtain ⟨ba, oa, rfl, hla', hca⟩ := HA.out i hia
            rw [← hB.cell (p := ⟨ba, oa + i, none⟩) hla'] at hca
            have hxb := okL_getD a haok i hia
            have hy0 : b.getD i 0 = 0 := by rw [List.getD_eq_getElem?_getD, List.getElem?_eq_none (by omega)]; rfl
            have hst := add_step (1000000000 ^ i) _ _ _ c (a.getD i 0) (b.getD i 0) hval
            rw [← val_take_succ, ← val_take_succ] at hst
            rw [hy0, Nat.add_zero] at hst
            obtain ⟨x, hx⟩ : ∃ x, a.getD i 0 = x := ⟨_, rfl⟩
            rw [hx] at hca hxb hst
            have HST : Hid (val ((L.set i ((c + x) % 1000000000)).take (i + 1)) + 1000000000 ^ (i + 1) * ((c + x) / 1000000000) = val (a.take (i + 1)) + val (b.take (i + 1))) := by
              show val ((L.set i ((c + x) % 1000000000)).take (i + 1)) + 1000000000 ^ (i + 1) * ((c + x) / 1000000000) = val (a.take (i + 1)) + val (b.take (i + 1))
              rw [val_take_set L i _ (by omega), Nat.pow_succ]
              exact hst
            clear hst hval hx
            obtain ⟨s, hs⟩ : ∃ s, c + x = s := ⟨_, rfl⟩
            have hsb : s < 2000000000 := by omega
            rw [hs] at HST
            have hcell := hR.cell i (by omega)
            have hfr := hR.frozen i
            have HR2 : Hid (Row (wr.setCell ⟨w.heap.size, i, none⟩ (.int .u32 ((s % 1000000000 : Nat) : Int))) w.heap.size (L.set i (s % 1000000000))) := hR.set i _
            have HB2 : Hid (∀ u, Below w.heap.size w (wr.setCell ⟨w.heap.size, i, none⟩ u)) := fun u => hB.setCell (Nat.le_refl _) u
            have HOK : Hid (okL (L.set i (s % 1000000000))) := okL_set L hLok i _ (Nat.mod_lt _ (by decide))
            have HSS : Hid (c + x = s) := hs
            clear hR hB hs hLok
            go_wp2
            go_roundw
            case rel =>
              refine ⟨i + 1, s / 1000000000, L.set i (s % 1000000000), by omega, by omega, by simp [hLl], HOK.out, ?_, val_int (by rw [← HSS.out]; simp), by go_num, HST.out, HB2.out _⟩
              have h := HR2.out
              rw [← HSS.out] at h ⊢
              simpa using h
            case measure => simp [intOf]; omega
        · by_cases hib : i < b.length
          · exfalso; omega
          · have hx0 : a.getD i 0 = 0 := by rw [List.getD_eq_getElem?_getD, List.getElem?_eq_none (by omega)]; rfl
            have hy0 : b.getD i 0 = 0 := by rw [List.getD_eq_getElem?_getD, List.getElem?_eq_none (by omega)]; rfl
            have hst := add_step (1000000000 ^ i) _ _ _ c (a.getD i 0) (b.getD i 0) hval
            rw [← val_take_succ, ← val_take_succ] at hst
            rw [hx0, Nat.add_zero] at hst
            rw [hy0, Nat.add_zero] at hst
            have HST : Hid (val ((L.set i ((c) % 1000000000)).take (i + 1)) + 1000000000 ^ (i + 1) * ((c) / 1000000000) = val (a.take (i + 1)) + val (b.take (i + 1))) := by
              show val ((L.set i ((c) % 1000000000)).take (i + 1)) + 1000000000 ^ (i + 1) * ((c) / 1000000000) = val (a.take (i + 1)) + val (b.take (i + 1))
              rw [val_take_set L i _ (by omega), Nat.pow_succ]
              exact hst
            clear hst hval
            obtain ⟨s, hs⟩ : ∃ s, c = s := ⟨_, rfl⟩
            have hsb : s < 2000000000 := by omega
            rw [hs] at HST
            have hcell := hR.cell i (by omega)
            have hfr := hR.frozen i
            have HR2 : Hid (Row (wr.setCell ⟨w.heap.size, i, none⟩ (.int .u32 ((s % 1000000000 : Nat) : Int))) w.heap.size (L.set i (s % 1000000000))) := hR.set i _
            have HB2 : Hid (∀ u, Below w.heap.size w (wr.setCell ⟨w.heap.size, i, none⟩ u)) := fun u => hB.setCell (Nat.le_refl _) u
            have HOK : Hid (okL (L.set i (s % 1000000000))) := okL_set L hLok i _ (Nat.mod_lt _ (by decide))
            have HSS : Hid (c = s) := hs
            clear hR hB hs hLok
            go_wp2
            go_roundw
            case rel =>
              refine ⟨i + 1, s / 1000000000, L.set i (s % 1000000000), by omega, by omega, by simp [hLl], HOK.out, ?_, val_int (by rw [← HSS.out]; simp), by go_num, HST.out, HB2.out _⟩
              have h := HR2.out
              rw [← HSS.out] at h ⊢
              simpa using h
            case measure => simp [intOf]; omega
      · obtain rfl : i = a.length + 1 := by omega
        have hE := add_end (1000000000 ^ (a.length)) _ c _ _ _ (Nat.pow_succ ..) hval (by rw [List.take_of_length_le (by omega)]; exact val_lt_of a haok _ (by omega)) (by rw [List.take_of_length_le (by omega)]; exact val_lt_of b hbok _ (by omega))
        rw [List.take_of_length_le (by omega), List.take_of_length_le (by omega), List.take_of_length_le (by omega)] at hE
        have HE : Hid (val L = val a + val b) := hE
        have HL : Hid (IsL w.heap.size wr (.slice (some ⟨w.heap.size, 0, none⟩) (a.length + 1) (a.length + 1)) L) := by
          have := hR.isL (B := w.heap.size) (cap := a.length + 1) (Nat.le_refl _) hLok (by omega) (by unfold maxLen; omega)
          rw [hLl] at this
          exact this
        have HBE : Hid (Below w.heap.size w wr) := hB
        clear hE hval hR hB hLok
        go_wp2
        go_ret
        exact ⟨_, L, rfl, HL.out, HE.out, HBE.out⟩
end Go.Proofs.YtfhgfclfhghlcaaDoor
