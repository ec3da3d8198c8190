import Derived.Test.YtpjnglcojamfmaaDoorM2
import Derived.Test.YtpjnglcojamfmaaDoorReadImpl
namespace Go.Proofs.YtpjnglcojamfmaaDoor
open Go.ChangeShapes Go.WideShapes Go.ChangeAt Go.RowKit
theorem limb_step (P s : Nat) : P * (s % 1000000000) + P * 1000000000 * (s / 1000000000) = P * s := by
  rw [Nat.mul_assoc, ← Nat.mul_add, Nat.add_comm, Nat.div_add_mod]
theorem made_zero' (n : Nat) : (madeCells #[Value.int .u32 0] n).toList = U32s (List.replicate n 0) := by
  rw [toList_madeCells_one]
  simp [U32s]
theorem okL_getD (t : List Nat) (h : okL t) (i : Nat) (hi : i < t.length) : t.getD i 0 < 1000000000 := by
  rw [List.getD_eq_getElem?_getD, List.getElem?_eq_getElem hi]
  exact h _ (List.getElem_mem _)
theorem add_step (P A Bv La c x y : Nat) (h : La + P * c = A + Bv) : La + P * ((c + x + y) % 1000000000) + P * 1000000000 * ((c + x + y) / 1000000000) = A + P * x + (Bv + P * y) := by
  have h1 := limb_step P (c + x + y)
  rw [Nat.mul_add, Nat.mul_add] at h1
  omega
theorem add_end (P Q c A Bv V : Nat) (hQ : Q = P * 1000000000) (h : V + Q * c = A + Bv) (hA : A < P) (hB : Bv < P) : V = A + Bv := by
  cases c with
  | zero => rw [Nat.mul_zero] at h; omega
  | succ c =>
    rw [Nat.mul_succ] at h
    generalize Q * c = X at h
    omega
theorem val_lt_of (a : List Nat) (h : okL a) (n : Nat) (hn : a.length ≤ n) : val a < 1000000000 ^ n := Nat.lt_of_lt_of_le (val_lt a h) (Nat.pow_le_pow_right (by decide) hn)
set_option maxRecDepth 100000 in
set_option maxHeartbeats 2000000 in
theorem l1AddD_any (B : Nat) (va vb : Value) (a b : List Nat) (w : World) (ha : IsL B w va a) (hb : IsL B w vb b) (hla : a.length ≤ 1000000) (hlb : b.length ≤ 1000000) :
    Calls Tryd.prog 60 #[va, vb] w fun e w' => ∃ v L, e = .returned v ∧ IsL w.heap.size w' v L ∧ val L = val a + val b ∧ Below w.heap.size w w' := by
  obtain ⟨i0, hinf, hz0, hz1, hz2⟩ := info_parts Tryd.info_u32
  obtain ⟨pa, ca, rfl, _⟩ := id ha
  obtain ⟨pb, cb, rfl, _⟩ := id hb
  obtain ⟨_, _, _, haok, hca⟩ := ha.cells
  obtain ⟨_, _, _, hbok, hcb⟩ := hb.cells
  have HA : Hid (∀ i, i < a.length → ∃ b off, pa = some ⟨b, off, none⟩ ∧ b < w.heap.size ∧ w.cell? ⟨b, off + i, none⟩ = some (.int .u32 (a.getD i 0 : Nat))) := hca
  have HB : Hid (∀ i, i < b.length → ∃ c off, pb = some ⟨c, off, none⟩ ∧ c < w.heap.size ∧ w.cell? ⟨c, off + i, none⟩ = some (.int .u32 (b.getD i 0 : Nat))) := hcb
  clear hca hcb ha hb
  by_cases hl : a.length < b.length
  · have z : decide ((a.length : Int) < b.length) = true := by rw [decide_eq_true_iff]; omega
    go_enter Tryd.func60, Tryd.ntmps60
    go_wp2_with (at_make; refine wpList_make_full _ rfl _ _ 26 rfl w.heap.size 51 i0 (.int .u32 0) 1 Tryd.underlying26 hinf hz0 hz1 .i64 .i64 _ _ (b.length + 1) rfl rfl ?pm0 ?pm1 ?pm2 ?pm3 ?pm4 ?_)
    try (case pm0 => omega)
    try (case pm1 => omega)
    try (case pm2 => (first | omega | (rw [hz2]; omega)))
    try (case pm3 => (unfold maxLen; omega))
    try (case pm4 => exact Nat.le_refl _)
    intro w1 hown hgr
    first | rw [made_zero] at hown | rw [made_zero'] at hown
    have hR : Row w1 w.heap.size (List.replicate (b.length + 1) 0) := row_of_full hown
    have hB1 : Below w.heap.size w w1 := (Below.refl _ _).grown hgr (Nat.le_refl _) (fun k h => by cases h)
    clear hown hgr
    go_wp2
    go_loopw [7, 8] (fun cv iv wr => ∃ (i c : Nat) (L : List Nat), i ≤ b.length + 1 ∧ c ≤ 1 ∧ L.length = b.length + 1 ∧ okL L ∧ Row wr w.heap.size L ∧ cv = .int .u64 (c : Nat) ∧ iv = .int .i64 i ∧
        val (L.take i) + 1000000000 ^ i * c = val (a.take i) + val (b.take i) ∧ Below w.heap.size w wr) (fun _ iv _ => b.length + 1 - (intOf iv).toNat)
    case atStart => exact ⟨0, 0, _, by omega, by omega, by simp, fun x hx => by rw [List.eq_of_mem_replicate hx]; omega, hR, rfl, rfl, by simp [val], hB1⟩
    case round =>
      clear hR hB1
      obtain ⟨i, c, L, hi, hc, hLl, hLok, hR, rfl, rfl, hval, hB⟩ := hrel
      by_cases hin : i ≤ b.length
      · by_cases hia : i < a.length
        · by_cases hib : i < b.length
          · obtain ⟨ba, oa, rfl, hla', hca⟩ := HA.out i hia
            rw [← hB.cell (p := ⟨ba, oa + i, none⟩) hla'] at hca
            have hxb := okL_getD a haok i hia
            obtain ⟨bb, ob, rfl, hlb', hcb⟩ := HB.out i hib
            rw [← hB.cell (p := ⟨bb, ob + i, none⟩) hlb'] at hcb
            have hyb := okL_getD b hbok i hib
            have hst := add_step (1000000000 ^ i) _ _ _ c (a.getD i 0) (b.getD i 0) hval
            rw [← val_take_succ, ← val_take_succ] at hst
            obtain ⟨x, hx⟩ : ∃ x, a.getD i 0 = x := ⟨_, rfl⟩
            rw [hx] at hca hxb hst
            obtain ⟨y, hy⟩ : ∃ y, b.getD i 0 = y := ⟨_, rfl⟩
            rw [hy] at hcb hyb hst
            have HST : Hid (val ((L.set i ((c + x + y) % 1000000000)).take (i + 1)) + 1000000000 ^ (i + 1) * ((c + x + y) / 1000000000) = val (a.take (i + 1)) + val (b.take (i + 1))) := by
              show val ((L.set i ((c + x + y) % 1000000000)).take (i + 1)) + 1000000000 ^ (i + 1) * ((c + x + y) / 1000000000) = val (a.take (i + 1)) + val (b.take (i + 1))
              rw [val_take_set L i _ (by omega), Nat.pow_succ]
              exact hst
            clear hst hval hx hy
            obtain ⟨s, hs⟩ : ∃ s, c + x + y = s := ⟨_, rfl⟩
            have hsb : s < 2000000000 := by omega
            rw [hs] at HST
            have hcell := hR.cell i (by omega)
            have hfr := hR.frozen i
            have HR2 : Hid (Row (wr.setCell ⟨w.heap.size, i, none⟩ (.int .u32 ((s % 1000000000 : Nat) : Int))) w.heap.size (L.set i (s % 1000000000))) := hR.set i _
            have HB2 : Hid (∀ u, Below w.heap.size w (wr.setCell ⟨w.heap.size, i, none⟩ u)) := fun u => hB.setCell (Nat.le_refl _) u
            have HOK : Hid (okL (L.set i (s % 1000000000))) := okL_set L hLok i _ (Nat.mod_lt _ (by decide))
            have HSS : Hid (c + x + y = s) := hs
            clear hR hB hs hLok
            go_wp2
            go_roundw
            case rel =>
              refine ⟨i + 1, s / 1000000000, L.set i (s % 1000000000), by omega, by omega, by simp [hLl], HOK.out, ?_, val_int (by rw [← HSS.out]; simp), by go_num, HST.out, HB2.out _⟩
              have h := HR2.out
              rw [← HSS.out] at h ⊢
              simpa using h
            case measure => simp [intOf]; omega
          · exfalso; omega
        · by_cases hib : i < b.length
          · have hx0 : a.getD i 0 = 0 := by rw [List.getD_eq_getElem?_getD, List.getElem?_eq_none (by omega)]; rfl
            obtain ⟨bb, ob, rfl, hlb', hcb⟩ := HB.out i hib
            rw [← hB.cell (p := ⟨bb, ob + i, none⟩) hlb'] at hcb
            have hyb := okL_getD b hbok i hib
            have hst := add_step (1000000000 ^ i) _ _ _ c (a.getD i 0) (b.getD i 0) hval
            rw [← val_take_succ, ← val_take_succ] at hst
            rw [hx0, Nat.add_zero] at hst
            obtain ⟨y, hy⟩ : ∃ y, b.getD i 0 = y := ⟨_, rfl⟩
            rw [hy] at hcb hyb hst
            have HST : Hid (val ((L.set i ((c + y) % 1000000000)).take (i + 1)) + 1000000000 ^ (i + 1) * ((c + y) / 1000000000) = val (a.take (i + 1)) + val (b.take (i + 1))) := by
              show val ((L.set i ((c + y) % 1000000000)).take (i + 1)) + 1000000000 ^ (i + 1) * ((c + y) / 1000000000) = val (a.take (i + 1)) + val (b.take (i + 1))
              rw [val_take_set L i _ (by omega), Nat.pow_succ]
              exact hst
            clear hst hval hy
            obtain ⟨s, hs⟩ : ∃ s, c + y = s := ⟨_, rfl⟩
            have hsb : s < 2000000000 := by omega
            rw [hs] at HST
            have hcell := hR.cell i (by omega)
            have hfr := hR.frozen i
            have HR2 : Hid (Row (wr.setCell ⟨w.heap.size, i, none⟩ (.int .u32 ((s % 1000000000 : Nat) : Int))) w.heap.size (L.set i (s % 1000000000))) := hR.set i _
            have HB2 : Hid (∀ u, Below w.heap.size w (wr.setCell ⟨w.heap.size, i, none⟩ u)) := fun u => hB.setCell (Nat.le_refl _) u
            have HOK : Hid (okL (L.set i (s % 1000000000))) := okL_set L hLok i _ (Nat.mod_lt _ (by decide))
            have HSS : Hid (c + y = s) := hs
            clear hR hB hs hLok
            go_wp2
            go_roundw
            case rel =>
              refine ⟨i + 1, s / 1000000000, L.set i (s % 1000000000), by omega, by omega, by simp [hLl], HOK.out, ?_, val_int (by rw [← HSS.out]; simp), by go_num, HST.out, HB2.out _⟩
              have h := HR2.out
              rw [← HSS.out] at h ⊢
              simpa using h
            case measure => simp [intOf]; omega
          · have hx0 : a.getD i 0 = 0 := by rw [List.getD_eq_getElem?_getD, List.getElem?_eq_none (by omega)]; rfl
            have hy0 : b.getD i 0 = 0 := by rw [List.getD_eq_getElem?_getD, List.getElem?_eq_none (by omega)]; rfl
            have hst := add_step (1000000000 ^ i) _ _ _ c (a.getD i 0) (b.getD i 0) hval
            rw [← val_take_succ, ← val_take_succ] at hst
            rw [hx0, Nat.add_zero] at hst
            rw [hy0, Nat.add_zero] at hst
            have HST : Hid (val ((L.set i ((c) % 1000000000)).take (i + 1)) + 1000000000 ^ (i + 1) * ((c) / 1000000000) = val (a.take (i + 1)) + val (b.take (i + 1))) := by
              show val ((L.set i ((c) % 1000000000)).take (i + 1)) + 1000000000 ^ (i + 1) * ((c) / 1000000000) = val (a.take (i + 1)) + val (b.take (i + 1))
              rw [val_take_set L i _ (by omega), Nat.pow_succ]
              exact hst
            clear hst hval
            obtain ⟨s, hs⟩ : ∃ s, c = s := ⟨_, rfl⟩
            have hsb : s < 2000000000 := by omega
            rw [hs] at HST
            have hcell := hR.cell i (by omega)
            have hfr := hR.frozen i
            have HR2 : Hid (Row (wr.setCell ⟨w.heap.size, i, none⟩ (.int .u32 ((s % 1000000000 : Nat) : Int))) w.heap.size (L.set i (s % 1000000000))) := hR.set i _
            have HB2 : Hid (∀ u, Below w.heap.size w (wr.setCell ⟨w.heap.size, i, none⟩ u)) := fun u => hB.setCell (Nat.le_refl _) u
            have HOK : Hid (okL (L.set i (s % 1000000000))) := okL_set L hLok i _ (Nat.mod_lt _ (by decide))
            have HSS : Hid (c = s) := hs
            clear hR hB hs hLok
            go_wp2
            go_roundw
            case rel =>
              refine ⟨i + 1, s / 1000000000, L.set i (s % 1000000000), by omega, by omega, by simp [hLl], HOK.out, ?_, val_int (by rw [← HSS.out]; simp), by go_num, HST.out, HB2.out _⟩
              have h := HR2.out
              rw [← HSS.out] at h ⊢
              simpa using h
            case measure => simp [intOf]; omega
      · obtain rfl : i = b.length + 1 := by omega
        have hE := add_end (1000000000 ^ (b.length)) _ c _ _ _ (Nat.pow_succ ..) hval (by rw [List.take_of_length_le (by omega)]; exact val_lt_of a haok _ (by omega)) (by rw [List.take_of_length_le (by omega)]; exact val_lt_of b hbok _ (by omega))
        rw [List.take_of_length_le (by omega), List.take_of_length_le (by omega), List.take_of_length_le (by omega)] at hE
        have HE : Hid (val L = val a + val b) := hE
        have HL : Hid (IsL w.heap.size wr (.slice (some ⟨w.heap.size, 0, none⟩) (b.length + 1) (b.length + 1)) L) := by
          have := hR.isL (B := w.heap.size) (cap := b.length + 1) (Nat.le_refl _) hLok (by omega) (by unfold maxLen; omega)
          rw [hLl] at this
          exact this
        have HBE : Hid (Below w.heap.size w wr) := hB
        clear hE hval hR hB hLok
        go_wp2
        go_ret
        exact ⟨_, L, rfl, HL.out, HE.out, HBE.out⟩
  · have z : decide ((a.length : Int) < b.length) = false := by rw [decide_eq_false_iff_not]; omega
    go_enter Tryd.func60, Tryd.ntmps60
    go_wp2_with (at_make; refine wpList_make_full _ rfl _ _ 26 rfl w.heap.size 51 i0 (.int .u32 0) 1 Tryd.underlying26 hinf hz0 hz1 .i64 .i64 _ _ (a.length + 1) rfl rfl ?qm0 ?qm1 ?qm2 ?qm3 ?qm4 ?_)
    try (case qm0 => omega)
    try (case qm1 => omega)
    try (case qm2 => (first | omega | (rw [hz2]; omega)))
    try (case qm3 => (unfold maxLen; omega))
    try (case qm4 => exact Nat.le_refl _)
    intro w1 hown hgr
    first | rw [made_zero] at hown | rw [made_zero'] at hown
    have hR : Row w1 w.heap.size (List.replicate (a.length + 1) 0) := row_of_full hown
    have hB1 : Below w.heap.size w w1 := (Below.refl _ _).grown hgr (Nat.le_refl _) (fun k h => by cases h)
    clear hown hgr
    go_wp2
    go_loopw [7, 8] (fun cv iv wr => ∃ (i c : Nat) (L : List Nat), i ≤ a.length + 1 ∧ c ≤ 1 ∧ L.length = a.length + 1 ∧ okL L ∧ Row wr w.heap.size L ∧ cv = .int .u64 (c : Nat) ∧ iv = .int .i64 i ∧
        val (L.take i) + 1000000000 ^ i * c = val (a.take i) + val (b.take i) ∧ Below w.heap.size w wr) (fun _ iv _ => a.length + 1 - (intOf iv).toNat)
    case atStart => exact ⟨0, 0, _, by omega, by omega, by simp, fun x hx => by rw [List.eq_of_mem_replicate hx]; omega, hR, rfl, rfl, by simp [val], hB1⟩
    case round =>
      clear hR hB1
      obtain ⟨i, c, L, hi, hc, hLl, hLok, hR, rfl, rfl, hval, hB⟩ := hrel
      by_cases hin : i ≤ a.length
      · by_cases hia : i < a.length
        · by_cases hib : i < b.length
          · obtain ⟨ba, oa, rfl, hla', hca⟩ := HA.out i hia
            rw [← hB.cell (p := ⟨ba, oa + i, none⟩) hla'] at hca
            have hxb := okL_getD a haok i hia
            obtain ⟨bb, ob, rfl, hlb', hcb⟩ := HB.out i hib
            rw [← hB.cell (p := ⟨bb, ob + i, none⟩) hlb'] at hcb
            have hyb := okL_getD b hbok i hib
            have hst := add_step (1000000000 ^ i) _ _ _ c (a.getD i 0) (b.getD i 0) hval
            rw [← val_take_succ, ← val_take_succ] at hst
            obtain ⟨x, hx⟩ : ∃ x, a.getD i 0 = x := ⟨_, rfl⟩
            rw [hx] at hca hxb hst
            obtain ⟨y, hy⟩ : ∃ y, b.getD i 0 = y := ⟨_, rfl⟩
            rw [hy] at hcb hyb hst
            have HST : Hid (val ((L.set i ((c + x + y) % 1000000000)).take (i + 1)) + 1000000000 ^ (i + 1) * ((c + x + y) / 1000000000) = val (a.take (i + 1)) + val (b.take (i + 1))) := by
              show val ((L.set i ((c + x + y) % 1000000000)).take (i + 1)) + 1000000000 ^ (i + 1) * ((c + x + y) / 1000000000) = val (a.take (i + 1)) + val (b.take (i + 1))
              rw [val_take_set L i _ (by omega), Nat.pow_succ]
              exact hst
            clear hst hval hx hy
            obtain ⟨s, hs⟩ : ∃ s, c + x + y = s := ⟨_, rfl⟩
            have hsb : s < 2000000000 := by omega
            rw [hs] at HST
            have hcell := hR.cell i (by omega)
            have hfr := hR.frozen i
            have HR2 : Hid (Row (wr.setCell ⟨w.heap.size, i, none⟩ (.int .u32 ((s % 1000000000 : Nat) : Int))) w.heap.size (L.set i (s % 1000000000))) := hR.set i _
            have HB2 : Hid (∀ u, Below w.heap.size w (wr.setCell ⟨w.heap.size, i, none⟩ u)) := fun u => hB.setCell (Nat.le_refl _) u
            have HOK : Hid (okL (L.set i (s % 1000000000))) := okL_set L hLok i _ (Nat.mod_lt _ (by decide))
            have HSS : Hid (c + x + y = s) := hs
            clear hR hB hs hLok
            go_wp2
            go_roundw
            case rel =>
              refine ⟨i + 1, s / 1000000000, L.set i (s % 1000000000), by omega, by omega, by simp [hLl], HOK.out, ?_, val_int (by rw [← HSS.out]; simp), by go_num, HST.out, HB2.out _⟩
              have h := HR2.out
              rw [← HSS.out] at h ⊢
              simpa using h
            case measure => simp [intOf]; omega
          · obtain ⟨ba, oa, rfl, hla', hca⟩ := HA.out i hia
            rw [← hB.cell (p := ⟨ba, oa + i, none⟩) hla'] at hca
            have hxb := okL_getD a haok i hia
            have hy0 : b.getD i 0 = 0 := by rw [List.getD_eq_getElem?_getD, List.getElem?_eq_none (by omega)]; rfl
            have hst := add_step (1000000000 ^ i) _ _ _ c (a.getD i 0) (b.getD i 0) hval
            rw [← val_take_succ, ← val_take_succ] at hst
            rw [hy0, Nat.add_zero] at hst
            obtain ⟨x, hx⟩ : ∃ x, a.getD i 0 = x := ⟨_, rfl⟩
            rw [hx] at hca hxb hst
            have HST : Hid (val ((L.set i ((c + x) % 1000000000)).take (i + 1)) + 1000000000 ^ (i + 1) * ((c + x) / 1000000000) = val (a.take (i + 1)) + val (b.take (i + 1))) := by
              show val ((L.set i ((c + x) % 1000000000)).take (i + 1)) + 1000000000 ^ (i + 1) * ((c + x) / 1000000000) = val (a.take (i + 1)) + val (b.take (i + 1))
              rw [val_take_set L i _ (by omega), Nat.pow_succ]
              exact hst
            clear hst hval hx
            obtain ⟨s, hs⟩ : ∃ s, c + x = s := ⟨_, rfl⟩
            have hsb : s < 2000000000 := by omega
            rw [hs] at HST
            have hcell := hR.cell i (by omega)
            have hfr := hR.frozen i
            have HR2 : Hid (Row (wr.setCell ⟨w.heap.size, i, none⟩ (.int .u32 ((s % 1000000000 : Nat) : Int))) w.heap.size (L.set i (s % 1000000000))) := hR.set i _
            have HB2 : Hid (∀ u, Below w.heap.size w (wr.setCell ⟨w.heap.size, i, none⟩ u)) := fun u => hB.setCell (Nat.le_refl _) u
            have HOK : Hid (okL (L.set i (s % 1000000000))) := okL_set L hLok i _ (Nat.mod_lt _ (by decide))
            have HSS : Hid (c + x = s) := hs
            clear hR hB hs hLok
            go_wp2
            go_roundw
            case rel =>
              refine ⟨i + 1, s / 1000000000, L.set i (s % 1000000000), by omega, by omega, by simp [hLl], HOK.out, ?_, val_int (by rw [← HSS.out]; simp), by go_num, HST.out, HB2.out _⟩
              have h := HR2.out
              rw [← HSS.out] at h ⊢
              simpa using h
            case measure => simp [intOf]; omega
        · by_cases hib : i < b.length
          · exfalso; omega
          · have hx0 : a.getD i 0 = 0 := by rw [List.getD_eq_getElem?_getD, List.getElem?_eq_none (by omega)]; rfl
            have hy0 : b.getD i 0 = 0 := by rw [List.getD_eq_getElem?_getD, List.getElem?_eq_none (by omega)]; rfl
            have hst := add_step (1000000000 ^ i) _ _ _ c (a.getD i 0) (b.getD i 0) hval
            rw [← val_take_succ, ← val_take_succ] at hst
            rw [hx0, Nat.add_zero] at hst
            rw [hy0, Nat.add_zero] at hst
            have HST : Hid (val ((L.set i ((c) % 1000000000)).take (i + 1)) + 1000000000 ^ (i + 1) * ((c) / 1000000000) = val (a.take (i + 1)) + val (b.take (i + 1))) := by
              show val ((L.set i ((c) % 1000000000)).take (i + 1)) + 1000000000 ^ (i + 1) * ((c) / 1000000000) = val (a.take (i + 1)) + val (b.take (i + 1))
              rw [val_take_set L i _ (by omega), Nat.pow_succ]
              exact hst
            clear hst hval
            obtain ⟨s, hs⟩ : ∃ s, c = s := ⟨_, rfl⟩
            have hsb : s < 2000000000 := by omega
            rw [hs] at HST
            have hcell := hR.cell i (by omega)
            have hfr := hR.frozen i
            have HR2 : Hid (Row (wr.setCell ⟨w.heap.size, i, none⟩ (.int .u32 ((s % 1000000000 : Nat) : Int))) w.heap.size (L.set i (s % 1000000000))) := hR.set i _
            have HB2 : Hid (∀ u, Below w.heap.size w (wr.setCell ⟨w.heap.size, i, none⟩ u)) := fun u => hB.setCell (Nat.le_refl _) u
            have HOK : Hid (okL (L.set i (s % 1000000000))) := okL_set L hLok i _ (Nat.mod_lt _ (by decide))
            have HSS : Hid (c = s) := hs
            clear hR hB hs hLok
            go_wp2
            go_roundw
            case rel =>
              refine ⟨i + 1, s / 1000000000, L.set i (s % 1000000000), by omega, by omega, by simp [hLl], HOK.out, ?_, val_int (by rw [← HSS.out]; simp), by go_num, HST.out, HB2.out _⟩
              have h := HR2.out
              rw [← HSS.out] at h ⊢
              simpa using h
            case measure => simp [intOf]; omega
      · obtain rfl : i = a.length + 1 := by omega
        have hE := add_end (1000000000 ^ (a.length)) _ c _ _ _ (Nat.pow_succ ..) hval (by rw [List.take_of_length_le (by omega)]; exact val_lt_of a haok _ (by omega)) (by rw [List.take_of_length_le (by omega)]; exact val_lt_of b hbok _ (by omega))
        rw [List.take_of_length_le (by omega), List.take_of_length_le (by omega), List.take_of_length_le (by omega)] at hE
        have HE : Hid (val L = val a + val b) := hE
        have HL : Hid (IsL w.heap.size wr (.slice (some ⟨w.heap.size, 0, none⟩) (a.length + 1) (a.length + 1)) L) := by
          have := hR.isL (B := w.heap.size) (cap := a.length + 1) (Nat.le_refl _) hLok (by omega) (by unfold maxLen; omega)
          rw [hLl] at this
          exact this
        have HBE : Hid (Below w.heap.size w wr) := hB
        clear hE hval hR hB hLok
        go_wp2
        go_ret
        exact ⟨_, L, rfl, HL.out, HE.out, HBE.out⟩
end Go.Proofs.YtpjnglcojamfmaaDoor
namespace Go.Proofs.YtpjnglcojamfmaaDoor
open Go.ChangeShapes Go.WideShapes Go.ChangeAt Go.RowKit
theorem into_step (P A Bv La c x y d c' : Nat) (h : La + P * c = A + Bv) (hd : d + 1000000000 * c' = x + c + y) : La + P * d + P * 1000000000 * c' = A + P * x + (Bv + P * y) := by
  have h1 : P * (d + 1000000000 * c') = P * (x + c + y) := by rw [hd]
  rw [Nat.mul_add, Nat.mul_add, Nat.mul_add, ← Nat.mul_assoc] at h1
  omega
theorem val_from (L A : List Nat) (i n : Nat) (hi : i ≤ n) (hl : L.length = A.length) (hd : L.drop i = A.drop i) (V : Nat) (h : val (L.take i) = val (A.take i) + V) : val (L.take n) = val (A.take n) + V := by
  have key : ∀ X : List Nat, i ≤ X.length → val (X.take n) = val (X.take i) + 1000000000 ^ i * val ((X.drop i).take (n - i)) := fun X hX => by
    have h1 : X.take n = X.take i ++ (X.drop i).take (n - i) := by
      rw [show n = i + (n - i) by omega, List.take_add]; simp
    rw [h1, val_append, List.length_take, Nat.min_eq_left hX]
  by_cases hX : i ≤ A.length
  · rw [key L (by omega), key A hX, hd, h]; omega
  · rw [List.take_of_length_le (by omega), List.take_of_length_le (by omega)] at h ⊢
    exact h
theorem drop_set_succ (L A : List Nat) (i x : Nat) (h : L.drop i = A.drop i) : (L.set i x).drop (i + 1) = A.drop (i + 1) := by
  rw [List.drop_set_of_lt (by omega), ← List.drop_drop, ← List.drop_drop, h]
theorem getD_drop (L A : List Nat) (i : Nat) (h : L.drop i = A.drop i) : L.getD i 0 = A.getD i 0 := by
  have h1 : ∀ X : List Nat, X.getD i 0 = (X.drop i).getD 0 0 := fun X => by simp [List.getD_eq_getElem?_getD]
  rw [h1 L, h1 A, h]
set_option maxRecDepth 100000 in
set_option maxHeartbeats 2000000 in
theorem addInto_any (R n cap : Nat) (vb : Value) (pb : Option Addr) (cb : Nat) (A b : List Nat) (w : World) (hR : Row w R A) (hAok : okL A) (hn : n ≤ A.length) (hA : A.length ≤ 1000000) (hbn : b.length ≤ n) (hbok : okL b)
    (hvb : vb = .slice pb b.length cb) (hcap : n ≤ cap)
    (hcb : ∀ i, i < b.length → ∃ c off, pb = some ⟨c, off, none⟩ ∧ c < R ∧ w.cell? ⟨c, off + i, none⟩ = some (.int .u32 (b.getD i 0 : Nat))) :
    Calls Tryd.prog 76 #[.slice (some ⟨R, 0, none⟩) n cap, vb] w fun e w' => ∃ c L, e = .returned (.int .u32 (c : Nat)) ∧ Row w' R L ∧ L.length = A.length ∧ okL L ∧ L.drop n = A.drop n ∧ c ≤ 1 ∧
      val (L.take n) + 1000000000 ^ n * c = val (A.take n) + val b ∧ Below R w w' := by
  subst hvb
  have HB : Hid (∀ i, i < b.length → ∃ c off, pb = some ⟨c, off, none⟩ ∧ c < R ∧ w.cell? ⟨c, off + i, none⟩ = some (.int .u32 (b.getD i 0 : Nat))) := hcb
  clear hcb
  go_enter Tryd.func76, Tryd.ntmps76
  go_wp2
  go_loopw [5, 10] (fun cv iv wr => ∃ (i c : Nat) (L : List Nat), i ≤ n ∧ c ≤ 1 ∧ L.length = A.length ∧ okL L ∧ Row wr R L ∧ L.drop i = A.drop i ∧ cv = .int .u32 (c : Nat) ∧ iv = .int .i64 i ∧
      val (L.take i) + 1000000000 ^ i * c = val (A.take i) + val (b.take i) ∧ Below R w wr) (fun _ iv _ => n - (intOf iv).toNat)
  case atStart => exact ⟨0, 0, A, by omega, by omega, rfl, hAok, hR, rfl, rfl, rfl, by simp [val], Below.refl _ _⟩
  case round =>
    clear hR
    obtain ⟨i, c, L, hi, hc, hLl, hLok, hR, hdr, rfl, rfl, hval, hB⟩ := hrel
    by_cases hin : i < n
    · have hcell := hR.cell i (by omega)
      have hx := getD_drop L A i hdr
      have hxb := okL_getD A hAok i (by omega)
      rw [hx] at hcell
      clear hx
      obtain ⟨x, hx⟩ : ∃ x, A.getD i 0 = x := ⟨_, rfl⟩
      rw [hx] at hxb hcell
      by_cases hib : i < b.length
      · obtain ⟨bb, ob, rfl, hlb', hcb⟩ := HB.out i hib
        rw [← hB.cell (p := ⟨bb, ob + i, none⟩) hlb'] at hcb
        have hyb := okL_getD b hbok i hib
        obtain ⟨y, hy⟩ : ∃ y, b.getD i 0 = y := ⟨_, rfl⟩
        rw [hy] at hcb hyb
        by_cases hov : 1000000000 ≤ x + c + y
        · skip
          have hst := into_step (1000000000 ^ i) _ _ _ c x y (x + c + y - 1000000000) 1 hval (by omega)
          have HST : Hid (val ((L.set i (x + c + y - 1000000000)).take (i + 1)) + 1000000000 ^ (i + 1) * 1 = val (A.take (i + 1)) + val (b.take (i + 1))) := by
            show val ((L.set i (x + c + y - 1000000000)).take (i + 1)) + 1000000000 ^ (i + 1) * 1 = val (A.take (i + 1)) + val (b.take (i + 1))
            rw [val_take_set L i _ (by omega), val_take_succ, val_take_succ, hx, hy, Nat.pow_succ]
            exact hst
          have hfr := hR.frozen i
          have HR2 : Hid (Row (wr.setCell ⟨R, i, none⟩ (.int .u32 (((x + c + y - 1000000000) : Nat) : Int))) R (L.set i (x + c + y - 1000000000))) := hR.set i _
          have HB2 : Hid (∀ u, Below R w (wr.setCell ⟨R, i, none⟩ u)) := fun u => hB.setCell (Nat.le_refl _) u
          have HOK : Hid (okL (L.set i (x + c + y - 1000000000))) := okL_set L hLok i _ (by omega)
          have HDR : Hid ((L.set i (x + c + y - 1000000000)).drop (i + 1) = A.drop (i + 1)) := drop_set_succ L A i _ hdr
          clear hst hval hx hy hR hB hLok hdr
          obtain ⟨X, hX⟩ : ∃ X : Int, (x : Int) = X := ⟨_, rfl⟩
          have HX : Hid ((x : Int) = X) := hX
          have x1 : 0 ≤ X := by omega
          have x2 : X < 1000000000 := by omega
          rw [hX] at hcell
          obtain ⟨C, hC⟩ : ∃ C : Int, (c : Int) = C := ⟨_, rfl⟩
          have HC : Hid ((c : Int) = C) := hC
          have c1 : 0 ≤ C := by omega
          have c2 : C ≤ 1 := by omega
          rw [hC]
          obtain ⟨Y, hY⟩ : ∃ Y : Int, (y : Int) = Y := ⟨_, rfl⟩
          have HY : Hid ((y : Int) = Y) := hY
          have y1 : 0 ≤ Y := by omega
          have y2 : Y < 1000000000 := by omega
          rw [hY] at hcb
          have t1 : 1000000000 ≤ X + C + Y := by omega
          have HOV := (id hov : _)
          have HHOV : Hid _ := hov
          clear hX hxb hov hC hY hyb HOV
          go_wp2
          go_roundw
          case rel =>
            refine ⟨i + 1, 1, L.set i (x + c + y - 1000000000), by omega, by omega, by simp [hLl], HOK.out, ?_, HDR.out, rfl, by go_num, HST.out, HB2.out _⟩
            have h := HR2.out
            rw [show ((((x + c + y - 1000000000)) : Nat) : Int) = _ from ?_] at h
            · exact h
            · have := HHOV.out; have := HX.out; have := HC.out; have := HY.out; omega
          case measure => simp [intOf]; omega
        · skip
          have hst := into_step (1000000000 ^ i) _ _ _ c x y (x + c + y) 0 hval (by omega)
          have HST : Hid (val ((L.set i (x + c + y)).take (i + 1)) + 1000000000 ^ (i + 1) * 0 = val (A.take (i + 1)) + val (b.take (i + 1))) := by
            show val ((L.set i (x + c + y)).take (i + 1)) + 1000000000 ^ (i + 1) * 0 = val (A.take (i + 1)) + val (b.take (i + 1))
            rw [val_take_set L i _ (by omega), val_take_succ, val_take_succ, hx, hy, Nat.pow_succ]
            exact hst
          have hfr := hR.frozen i
          have HR2 : Hid (Row (wr.setCell ⟨R, i, none⟩ (.int .u32 (((x + c + y) : Nat) : Int))) R (L.set i (x + c + y))) := hR.set i _
          have HB2 : Hid (∀ u, Below R w (wr.setCell ⟨R, i, none⟩ u)) := fun u => hB.setCell (Nat.le_refl _) u
          have HOK : Hid (okL (L.set i (x + c + y))) := okL_set L hLok i _ (by omega)
          have HDR : Hid ((L.set i (x + c + y)).drop (i + 1) = A.drop (i + 1)) := drop_set_succ L A i _ hdr
          clear hst hval hx hy hR hB hLok hdr
          obtain ⟨X, hX⟩ : ∃ X : Int, (x : Int) = X := ⟨_, rfl⟩
          have HX : Hid ((x : Int) = X) := hX
          have x1 : 0 ≤ X := by omega
          have x2 : X < 1000000000 := by omega
          rw [hX] at hcell
          obtain ⟨C, hC⟩ : ∃ C : Int, (c : Int) = C := ⟨_, rfl⟩
          have HC : Hid ((c : Int) = C) := hC
          have c1 : 0 ≤ C := by omega
          have c2 : C ≤ 1 := by omega
          rw [hC]
          obtain ⟨Y, hY⟩ : ∃ Y : Int, (y : Int) = Y := ⟨_, rfl⟩
          have HY : Hid ((y : Int) = Y) := hY
          have y1 : 0 ≤ Y := by omega
          have y2 : Y < 1000000000 := by omega
          rw [hY] at hcb
          have t1 : X + C + Y < 1000000000 := by omega
          have HOV := (id hov : _)
          have HHOV : Hid _ := hov
          clear hX hxb hov hC hY hyb HOV
          go_wp2
          go_roundw
          case rel =>
            refine ⟨i + 1, 0, L.set i (x + c + y), by omega, by omega, by simp [hLl], HOK.out, ?_, HDR.out, rfl, by go_num, HST.out, HB2.out _⟩
            have h := HR2.out
            rw [show ((((x + c + y)) : Nat) : Int) = _ from ?_] at h
            · exact h
            · have := HHOV.out; have := HX.out; have := HC.out; have := HY.out; omega
          case measure => simp [intOf]; omega
      · have hy : b.getD i 0 = 0 := by rw [List.getD_eq_getElem?_getD, List.getElem?_eq_none (by omega)]; rfl
        by_cases hc0 : c = 0
        · subst hc0
          have hE := val_from L A i n hi hLl hdr (val b) (by rw [Nat.mul_zero, Nat.add_zero, List.take_of_length_le (show b.length ≤ i by omega)] at hval; exact hval)
          have HE : Hid (∃ c' L', Row wr R L' ∧ L'.length = A.length ∧ okL L' ∧ L'.drop n = A.drop n ∧ c' = 0 ∧ val (L'.take n) + 1000000000 ^ n * c' = val (A.take n) + val b) := ⟨0, L, hR, hLl, hLok, by rw [show n = i + (n - i) by omega, ← List.drop_drop, ← List.drop_drop, hdr], rfl, by rw [hE]; omega⟩
          have HBE : Hid (Below R w wr) := hB
          clear hE hval hR hB hLok hdr hx hy
          go_wp2
          go_ret
          obtain ⟨c', L', e1, e2, e3, e4, rfl, e5⟩ := HE.out
          exact ⟨0, L', rfl, e1, e2, e3, e4, by omega, e5, HBE.out⟩
        · obtain rfl : c = 1 := by omega
          by_cases hov : 1000000000 ≤ x + 1
          · skip
            have hst := into_step (1000000000 ^ i) _ _ _ 1 x 0 (x + 1 - 1000000000) 1 hval (by omega)
            have HST : Hid (val ((L.set i (x + 1 - 1000000000)).take (i + 1)) + 1000000000 ^ (i + 1) * 1 = val (A.take (i + 1)) + val (b.take (i + 1))) := by
              show val ((L.set i (x + 1 - 1000000000)).take (i + 1)) + 1000000000 ^ (i + 1) * 1 = val (A.take (i + 1)) + val (b.take (i + 1))
              rw [val_take_set L i _ (by omega), val_take_succ, val_take_succ, hx, hy, Nat.pow_succ]
              exact hst
            have hfr := hR.frozen i
            have HR2 : Hid (Row (wr.setCell ⟨R, i, none⟩ (.int .u32 (((x + 1 - 1000000000) : Nat) : Int))) R (L.set i (x + 1 - 1000000000))) := hR.set i _
            have HB2 : Hid (∀ u, Below R w (wr.setCell ⟨R, i, none⟩ u)) := fun u => hB.setCell (Nat.le_refl _) u
            have HOK : Hid (okL (L.set i (x + 1 - 1000000000))) := okL_set L hLok i _ (by omega)
            have HDR : Hid ((L.set i (x + 1 - 1000000000)).drop (i + 1) = A.drop (i + 1)) := drop_set_succ L A i _ hdr
            clear hst hval hx hy hR hB hLok hdr
            obtain ⟨X, hX⟩ : ∃ X : Int, (x : Int) = X := ⟨_, rfl⟩
            have HX : Hid ((x : Int) = X) := hX
            have x1 : 0 ≤ X := by omega
            have x2 : X < 1000000000 := by omega
            rw [hX] at hcell
            have t1 : 1000000000 ≤ X + 1 := by omega
            have HOV := (id hov : _)
            have HHOV : Hid _ := hov
            clear hX hxb hov HOV
            go_wp2
            go_roundw
            case rel =>
              refine ⟨i + 1, 1, L.set i (x + 1 - 1000000000), by omega, by omega, by simp [hLl], HOK.out, ?_, HDR.out, rfl, by go_num, HST.out, HB2.out _⟩
              have h := HR2.out
              rw [show ((((x + 1 - 1000000000)) : Nat) : Int) = _ from ?_] at h
              · exact h
              · have := HHOV.out; have := HX.out; omega
            case measure => simp [intOf]; omega
          · skip
            have hst := into_step (1000000000 ^ i) _ _ _ 1 x 0 (x + 1) 0 hval (by omega)
            have HST : Hid (val ((L.set i (x + 1)).take (i + 1)) + 1000000000 ^ (i + 1) * 0 = val (A.take (i + 1)) + val (b.take (i + 1))) := by
              show val ((L.set i (x + 1)).take (i + 1)) + 1000000000 ^ (i + 1) * 0 = val (A.take (i + 1)) + val (b.take (i + 1))
              rw [val_take_set L i _ (by omega), val_take_succ, val_take_succ, hx, hy, Nat.pow_succ]
              exact hst
            have hfr := hR.frozen i
            have HR2 : Hid (Row (wr.setCell ⟨R, i, none⟩ (.int .u32 (((x + 1) : Nat) : Int))) R (L.set i (x + 1))) := hR.set i _
            have HB2 : Hid (∀ u, Below R w (wr.setCell ⟨R, i, none⟩ u)) := fun u => hB.setCell (Nat.le_refl _) u
            have HOK : Hid (okL (L.set i (x + 1))) := okL_set L hLok i _ (by omega)
            have HDR : Hid ((L.set i (x + 1)).drop (i + 1) = A.drop (i + 1)) := drop_set_succ L A i _ hdr
            clear hst hval hx hy hR hB hLok hdr
            obtain ⟨X, hX⟩ : ∃ X : Int, (x : Int) = X := ⟨_, rfl⟩
            have HX : Hid ((x : Int) = X) := hX
            have x1 : 0 ≤ X := by omega
            have x2 : X < 1000000000 := by omega
            rw [hX] at hcell
            have t1 : X + 1 < 1000000000 := by omega
            have HOV := (id hov : _)
            have HHOV : Hid _ := hov
            clear hX hxb hov HOV
            go_wp2
            go_roundw
            case rel =>
              refine ⟨i + 1, 0, L.set i (x + 1), by omega, by omega, by simp [hLl], HOK.out, ?_, HDR.out, rfl, by go_num, HST.out, HB2.out _⟩
              have h := HR2.out
              rw [show ((((x + 1)) : Nat) : Int) = _ from ?_] at h
              · exact h
              · have := HHOV.out; have := HX.out; omega
            case measure => simp [intOf]; omega
    · obtain rfl : i = n := by omega
      rw [List.take_of_length_le (show b.length ≤ i by omega)] at hval
      have HE : Hid (Row wr R L ∧ L.length = A.length ∧ okL L ∧ L.drop i = A.drop i ∧ val (L.take i) + 1000000000 ^ i * c = val (A.take i) + val b ∧ Below R w wr) := ⟨hR, hLl, hLok, hdr, hval, hB⟩
      clear hval hR hB hLok hdr
      go_wp2
      go_ret
      obtain ⟨e1, e2, e3, e4, e5, e6⟩ := HE.out
      exact ⟨c, L, rfl, e1, e2, e3, e4, hc, e5, e6⟩
end Go.Proofs.YtpjnglcojamfmaaDoor
namespace Go.Proofs.YtpjnglcojamfmaaDoor
open Go.ChangeShapes Go.WideShapes Go.ChangeAt Go.RowKit
/-- Block R begins with these limbs, and may be written. -/
def RowT (w : World) (R : Nat) (l : List Nat) : Prop := ∃ tail : List Value, w.heap[R]? = some (.cells (U32s l ++ tail).toArray 51 (0, 0))
theorem Row.tail {w : World} {R : Nat} {l : List Nat} (h : Row w R l) : RowT w R l := ⟨[], by rw [List.append_nil]; exact h⟩
theorem RowT.lt {w : World} {R : Nat} {l : List Nat} (h : RowT w R l) : R < w.heap.size := by
  obtain ⟨t, h⟩ := h
  exact (Array.getElem?_eq_some_iff.1 h).1
theorem RowT.cell {w : World} {R : Nat} {l : List Nat} (h : RowT w R l) (i : Nat) (hi : i < l.length) : w.cell? ⟨R, i, none⟩ = some (.int .u32 (l.getD i 0 : Nat)) := by
  obtain ⟨t, h⟩ := h
  simp [World.cell?, h, List.getElem?_append, hi, List.getD_eq_getElem?_getD]
theorem RowT.frozen {w : World} {R : Nat} {l : List Nat} (h : RowT w R l) (i : Nat) : w.frozen? ⟨R, i, none⟩ = false := by
  obtain ⟨t, h⟩ := h
  simp [World.frozen?, h]
theorem RowT.set {w : World} {R : Nat} {l : List Nat} (h : RowT w R l) (i x : Nat) (hi : i < l.length) : RowT (w.setCell ⟨R, i, none⟩ (.int .u32 (x : Nat))) R (l.set i x) := by
  obtain ⟨t, h⟩ := h
  refine ⟨t, ?_⟩
  obtain ⟨hlt, hk⟩ := Array.getElem?_eq_some_iff.1 h
  show (w.heap.modify R _)[R]? = _
  rw [Array.getElem?_eq_getElem (by rw [Array.size_modify]; exact hlt), Array.getElem_modify_self, hk]
  simp [U32s, List.map_set, hi]
theorem RowT.isL {w : World} {R B cap : Nat} {l : List Nat} (h : RowT w R l) (hB : B ≤ R) (hok : okL l) (hc : l.length ≤ cap) (hm : cap ≤ maxLen) : IsL B w (.slice (some ⟨R, 0, none⟩) l.length cap) l :=
  ⟨_, cap, rfl, hc, hm, hok, .inr ⟨R, 0, rfl, hB, h.lt, fun i hi => by rw [Nat.zero_add]; exact h.cell i hi⟩⟩
end Go.Proofs.YtpjnglcojamfmaaDoor
namespace Go.Proofs.YtpjnglcojamfmaaDoor
open Go.ChangeShapes Go.WideShapes Go.ChangeAt Go.RowKit
/-- The value, when one limb is written. -/
theorem val_set (l : List Nat) (j x : Nat) (hj : j < l.length) : val (l.set j x) + 1000000000 ^ j * l.getD j 0 = val l + 1000000000 ^ j * x := by
  induction l generalizing j with
  | nil => simp at hj
  | cons y l ih =>
    cases j with
    | zero => simp [val]; omega
    | succ j =>
      have h := ih j (by simpa using hj)
      simp only [List.set_cons_succ, val, List.getD_cons_succ, Nat.pow_succ, Nat.mul_comm _ 1000000000, Nat.mul_assoc]
      omega
theorem scadd_step (P VL VN VA K c x F d c' : Nat) (h : VL + P * c = VA + K) (hs : VN + P * x = VL + P * d) (hd : d + 1000000000 * c' = c + F + x) : VN + P * 1000000000 * c' = VA + (K + P * F) := by
  have h1 : P * (d + 1000000000 * c') = P * (c + F + x) := by rw [hd]
  rw [Nat.mul_add, Nat.mul_add, Nat.mul_add, ← Nat.mul_assoc] at h1
  omega
theorem scadd_sum (off i f v y : Nat) : 1000000000 ^ off * (f * (v + 1000000000 ^ i * y)) = 1000000000 ^ off * (f * v) + 1000000000 ^ (off + i) * (f * y) := by
  rw [Nat.mul_add, Nat.mul_add, Nat.pow_add, Nat.mul_left_comm f, Nat.mul_assoc]
set_option maxRecDepth 100000 in
set_option maxHeartbeats 2000000 in
theorem addScaled_any (R off cap f : Nat) (vb : Value) (pb : Option Addr) (cb : Nat) (A b : List Nat) (w : World) (hR : RowT w R A) (hAok : okL A) (hn : off + b.length ≤ A.length) (hA : A.length ≤ 1000000) (hbok : okL b)
    (hvb : vb = .slice pb b.length cb) (_hcap : b.length ≤ cap) (hf : f < 1000000000)
    (hcb : ∀ i, i < b.length → ∃ c off, pb = some ⟨c, off, none⟩ ∧ c < R ∧ w.cell? ⟨c, off + i, none⟩ = some (.int .u32 (b.getD i 0 : Nat))) :
    Calls Tryd.prog 87 #[.slice (some ⟨R, off, none⟩) b.length cap, vb, .int .u64 (f : Nat)] w fun e w' => ∃ c L, e = .returned (.int .u32 (c : Nat)) ∧ RowT w' R L ∧ L.length = A.length ∧ okL L ∧ L.drop (off + b.length) = A.drop (off + b.length) ∧ c ≤ f ∧
      val L + 1000000000 ^ (off + b.length) * c = val A + 1000000000 ^ off * (f * val b) ∧ Below R w w' := by
  subst hvb
  have HB : Hid (∀ i, i < b.length → ∃ c off, pb = some ⟨c, off, none⟩ ∧ c < R ∧ w.cell? ⟨c, off + i, none⟩ = some (.int .u32 (b.getD i 0 : Nat))) := hcb
  clear hcb
  go_enter Tryd.func87, Tryd.ntmps87
  go_wp2
  go_loopw [7, 12] (fun cv iv wr => ∃ (i c : Nat) (L : List Nat), i ≤ b.length ∧ c ≤ f ∧ L.length = A.length ∧ okL L ∧ RowT wr R L ∧ L.drop (off + i) = A.drop (off + i) ∧ cv = .int .u64 (c : Nat) ∧ iv = .int .i64 i ∧
      val L + 1000000000 ^ (off + i) * c = val A + 1000000000 ^ off * (f * val (b.take i)) ∧ Below R w wr) (fun _ iv _ => b.length - (intOf iv).toNat)
  case atStart => exact ⟨0, 0, A, by omega, by omega, rfl, hAok, hR, rfl, rfl, rfl, by simp [val], Below.refl _ _⟩
  case round =>
    clear hR
    obtain ⟨i, c, L, hi, hcf, hLl, hLok, hR, hdr, rfl, rfl, hval, hB⟩ := hrel
    by_cases hib : i < b.length
    · have hcell := hR.cell (off + i) (by omega)
      have hxb := okL_getD L hLok (off + i) (by omega)
      obtain ⟨x, hx⟩ : ∃ x, L.getD (off + i) 0 = x := ⟨_, rfl⟩
      rw [hx] at hxb hcell
      obtain ⟨bb, ob, rfl, hlb', hcb⟩ := HB.out i hib
      rw [← hB.cell (p := ⟨bb, ob + i, none⟩) hlb'] at hcb
      have hyb := okL_getD b hbok i hib
      obtain ⟨y, hy⟩ : ∃ y, b.getD i 0 = y := ⟨_, rfl⟩
      rw [hy] at hcb hyb
      obtain ⟨F, hF⟩ : ∃ F, f * y = F := ⟨_, rfl⟩
      have hFb : F ≤ f * 999999999 := by rw [← hF]; exact Nat.mul_le_mul_left f (by omega)
      have hvs := val_set L (off + i) ((c + F + x) % 1000000000) (by omega)
      rw [hx] at hvs
      have hst := scadd_step (1000000000 ^ (off + i)) _ _ _ _ c x F ((c + F + x) % 1000000000) ((c + F + x) / 1000000000) hval hvs (by omega)
      have HST : Hid (val (L.set (off + i) ((c + F + x) % 1000000000)) + 1000000000 ^ (off + (i + 1)) * ((c + F + x) / 1000000000) = val A + 1000000000 ^ off * (f * val (b.take (i + 1)))) := by
        show val (L.set (off + i) ((c + F + x) % 1000000000)) + 1000000000 ^ (off + (i + 1)) * ((c + F + x) / 1000000000) = val A + 1000000000 ^ off * (f * val (b.take (i + 1)))
        rw [val_take_succ, hy, scadd_sum, hF, ← Nat.add_assoc, Nat.pow_succ]
        exact hst
      have hfr := hR.frozen (off + i)
      have HR1 : Hid (RowT (wr.setCell ⟨R, off + i, none⟩ (.int .u32 ((((c + F + x) % 1000000000) : Nat) : Int))) R (L.set (off + i) ((c + F + x) % 1000000000))) := hR.set (off + i) _ (by omega)
      have HB2 : Hid (∀ u, Below R w (wr.setCell ⟨R, off + i, none⟩ u)) := fun u => hB.setCell (Nat.le_refl _) u
      have HOK : Hid (okL (L.set (off + i) ((c + F + x) % 1000000000))) := okL_set L hLok (off + i) _ (Nat.mod_lt _ (by decide))
      have HDR : Hid ((L.set (off + i) ((c + F + x) % 1000000000)).drop (off + (i + 1)) = A.drop (off + (i + 1))) := drop_set_succ L A (off + i) _ hdr
      have HCF : Hid ((c + F + x) / 1000000000 ≤ f) := by
        show (c + F + x) / 1000000000 ≤ f
        omega
      clear hst hval hx hy hR hB hLok hdr hvs
      obtain ⟨X, hX⟩ : ∃ X : Int, (x : Int) = X := ⟨_, rfl⟩
      have HX : Hid ((x : Int) = X) := hX
      have x1 : 0 ≤ X := by omega
      have x2 : X < 1000000000 := by omega
      rw [hX] at hcell
      obtain ⟨C, hC⟩ : ∃ C : Int, (c : Int) = C := ⟨_, rfl⟩
      have HC : Hid ((c : Int) = C) := hC
      have c1 : 0 ≤ C := by omega
      have c2 : C < 1000000000 := by omega
      rw [hC]
      obtain ⟨G, hG⟩ : ∃ G : Int, (f : Int) = G := ⟨_, rfl⟩
      rw [hG]
      obtain ⟨Y, hY⟩ : ∃ Y : Int, (y : Int) = Y := ⟨_, rfl⟩
      have hFI : (F : Int) = G * Y := by rw [← hF, ← hG, ← hY]; rfl
      have HFI : Hid ((F : Int) = G * Y) := hFI
      have g1 : 0 ≤ G * Y := by rw [← hFI]; omega
      have g2 : G * Y ≤ 999999999000000000 := by rw [← hFI]; omega
      have y1 : 0 ≤ Y := by omega
      have y2 : Y < 1000000000 := by omega
      rw [hY] at hcb
      clear hX hxb hC hG hY hFI hyb hF hFb hcf
      go_wp2
      go_roundw
      case rel =>
        refine ⟨i + 1, (c + F + x) / 1000000000, L.set (off + i) ((c + F + x) % 1000000000), by omega, HCF.out, by simp [hLl], HOK.out, ?_, HDR.out, ?_, by go_num, HST.out, HB2.out _⟩
        · have h := HR1.out
          rw [show ((((c + F + x) % 1000000000) : Nat) : Int) = _ from ?_] at h
          · exact h
          · have := HX.out; have := HC.out; have := HFI.out; omega
        · congr 1; have := HX.out; have := HC.out; have := HFI.out; omega
      case measure => simp [intOf]; omega
    · obtain rfl : i = b.length := by omega
      rw [List.take_of_length_le (Nat.le_refl _)] at hval
      have HE : Hid (RowT wr R L ∧ L.length = A.length ∧ okL L ∧ L.drop (off + b.length) = A.drop (off + b.length) ∧ val L + 1000000000 ^ (off + b.length) * c = val A + 1000000000 ^ off * (f * val b) ∧ Below R w wr) := ⟨hR, hLl, hLok, hdr, hval, hB⟩
      clear hval hR hB hLok hdr
      go_wp2
      go_ret
      obtain ⟨e1, e2, e3, e4, e5, e6⟩ := HE.out
      exact ⟨c, L, rfl, e1, e2, e3, e4, hcf, e5, e6⟩
end Go.Proofs.YtpjnglcojamfmaaDoor
namespace Go.Proofs.YtpjnglcojamfmaaDoor
open Go.ChangeShapes Go.WideShapes Go.ChangeAt Go.RowKit
theorem scaled_step (P A Bv La c x y d c' f : Nat) (h : La + f * Bv = A + P * c) (hd : d + (c + f * y) = x + 1000000000 * c') : La + P * d + f * (Bv + P * y) = A + P * x + P * 1000000000 * c' := by
  have h1 : P * (d + (c + f * y)) = P * (x + 1000000000 * c') := by rw [hd]
  rw [Nat.mul_add, Nat.mul_add, Nat.mul_add, ← Nat.mul_assoc, ← Nat.mul_assoc] at h1
  rw [Nat.mul_add, ← Nat.mul_assoc, Nat.mul_comm f P]
  omega
theorem owed_le (c f F : Nat) (hc : c ≤ f) (hF : F ≤ f * 999999999) : (c + F) / 1000000000 ≤ f := by omega
theorem owed_lt (c f F : Nat) (hc : c ≤ f) (hF : F ≤ f * 999999999) (h : 0 < (c + F) % 1000000000) : (c + F) / 1000000000 + 1 ≤ f := by omega
set_option maxRecDepth 100000 in
set_option maxHeartbeats 2000000 in
theorem subScaled_any (R n cap f : Nat) (vb : Value) (pb : Option Addr) (cb : Nat) (A b : List Nat) (w : World) (hR : RowT w R A) (hAok : okL A) (hn : n ≤ A.length) (hA : A.length ≤ 1000000) (hbn : b.length ≤ n) (hbok : okL b)
    (hvb : vb = .slice pb b.length cb) (hcap : n ≤ cap) (hf : f ≤ 1000000000)
    (hcb : ∀ i, i < b.length → ∃ c off, pb = some ⟨c, off, none⟩ ∧ c < R ∧ w.cell? ⟨c, off + i, none⟩ = some (.int .u32 (b.getD i 0 : Nat))) :
    Calls Tryd.prog 78 #[.slice (some ⟨R, 0, none⟩) n cap, vb, .int .u64 (f : Nat)] w fun e w' => ∃ c L, e = .returned (.int .u64 (c : Nat)) ∧ RowT w' R L ∧ L.length = A.length ∧ okL L ∧ L.drop n = A.drop n ∧ c ≤ f ∧
      val (L.take n) + f * val b = val (A.take n) + 1000000000 ^ n * c ∧ Below R w w' := by
  subst hvb
  have HB : Hid (∀ i, i < b.length → ∃ c off, pb = some ⟨c, off, none⟩ ∧ c < R ∧ w.cell? ⟨c, off + i, none⟩ = some (.int .u32 (b.getD i 0 : Nat))) := hcb
  clear hcb
  go_enter Tryd.func78, Tryd.ntmps78
  go_wp2
  go_loopw [7, 12] (fun cv iv wr => ∃ (i c : Nat) (L : List Nat), i ≤ n ∧ c ≤ f ∧ L.length = A.length ∧ okL L ∧ RowT wr R L ∧ L.drop i = A.drop i ∧ cv = .int .u64 (c : Nat) ∧ iv = .int .i64 i ∧
      val (L.take i) + f * val (b.take i) = val (A.take i) + 1000000000 ^ i * c ∧ Below R w wr) (fun _ iv _ => n - (intOf iv).toNat)
  case atStart => exact ⟨0, 0, A, by omega, by omega, rfl, hAok, hR, rfl, rfl, rfl, by simp [val], Below.refl _ _⟩
  case round =>
    clear hR
    obtain ⟨i, c, L, hi, hcf, hLl, hLok, hR, hdr, rfl, rfl, hval, hB⟩ := hrel
    have hc : c ≤ 1000000000 := by omega
    by_cases hin : i < n
    · have hcell := hR.cell i (by omega)
      have hx := getD_drop L A i hdr
      have hxb := okL_getD A hAok i (by omega)
      rw [hx] at hcell
      clear hx
      obtain ⟨x, hx⟩ : ∃ x, A.getD i 0 = x := ⟨_, rfl⟩
      rw [hx] at hxb hcell
      by_cases hib : i < b.length
      · obtain ⟨bb, ob, rfl, hlb', hcb⟩ := HB.out i hib
        rw [← hB.cell (p := ⟨bb, ob + i, none⟩) hlb'] at hcb
        have hyb := okL_getD b hbok i hib
        obtain ⟨y, hy⟩ : ∃ y, b.getD i 0 = y := ⟨_, rfl⟩
        rw [hy] at hcb hyb
        obtain ⟨F, hF⟩ : ∃ F, f * y = F := ⟨_, rfl⟩
        have hFb : F ≤ f * 999999999 := by rw [← hF]; exact Nat.mul_le_mul_left f (by omega)
        by_cases hov : x < (c + F) % 1000000000
        · skip
          have hst := scaled_step (1000000000 ^ i) _ _ _ c x y (x + 1000000000 - (c + F) % 1000000000) ((c + F) / 1000000000 + 1) f hval (by rw [hF]; omega)
          have HST : Hid (val ((L.set i (x + 1000000000 - (c + F) % 1000000000)).take (i + 1)) + f * val (b.take (i + 1)) = val (A.take (i + 1)) + 1000000000 ^ (i + 1) * ((c + F) / 1000000000 + 1)) := by
            show val ((L.set i (x + 1000000000 - (c + F) % 1000000000)).take (i + 1)) + f * val (b.take (i + 1)) = val (A.take (i + 1)) + 1000000000 ^ (i + 1) * ((c + F) / 1000000000 + 1)
            rw [val_take_set L i _ (by omega), val_take_succ, val_take_succ, hx, hy, Nat.pow_succ]
            exact hst
          have hfr := hR.frozen i
          have HR2 : Hid (∀ u : Nat, RowT ((wr.setCell ⟨R, i, none⟩ (.int .u32 (u : Nat))).setCell ⟨R, i, none⟩ (.int .u32 (((x + 1000000000 - (c + F) % 1000000000) : Nat) : Int))) R (L.set i (x + 1000000000 - (c + F) % 1000000000))) := fun u => by
            have h := (hR.set i u (by omega)).set i (x + 1000000000 - (c + F) % 1000000000) (by simp; omega)
            rw [List.set_set] at h
            exact h
          have HR1 : Hid (RowT (wr.setCell ⟨R, i, none⟩ (.int .u32 (((x + 1000000000 - (c + F) % 1000000000) : Nat) : Int))) R (L.set i (x + 1000000000 - (c + F) % 1000000000))) := hR.set i _ (by omega)
          have HB2 : Hid (∀ u v, Below R w (wr.setCell ⟨R, i, none⟩ u) ∧ Below R w ((wr.setCell ⟨R, i, none⟩ u).setCell ⟨R, i, none⟩ v)) := fun u v => ⟨hB.setCell (Nat.le_refl _) u, (hB.setCell (Nat.le_refl _) u).setCell (Nat.le_refl _) v⟩
          have HOK : Hid (okL (L.set i (x + 1000000000 - (c + F) % 1000000000))) := okL_set L hLok i _ (by omega)
          have HDR : Hid ((L.set i (x + 1000000000 - (c + F) % 1000000000)).drop (i + 1) = A.drop (i + 1)) := drop_set_succ L A i _ hdr
          have HCF : Hid ((c + F) / 1000000000 + 1 ≤ f) := by
            show (c + F) / 1000000000 + 1 ≤ f
            omega
          clear hst hval hx hy hR hB hLok hdr
          obtain ⟨X, hX⟩ : ∃ X : Int, (x : Int) = X := ⟨_, rfl⟩
          have HX : Hid ((x : Int) = X) := hX
          have x1 : 0 ≤ X := by omega
          have x2 : X < 1000000000 := by omega
          rw [hX] at hcell
          obtain ⟨C, hC⟩ : ∃ C : Int, (c : Int) = C := ⟨_, rfl⟩
          have HC : Hid ((c : Int) = C) := hC
          have c1 : 0 ≤ C := by omega
          have c2 : C ≤ 1000000000 := by omega
          rw [hC]
          obtain ⟨G, hG⟩ : ∃ G : Int, (f : Int) = G := ⟨_, rfl⟩
          rw [hG]
          obtain ⟨Y, hY⟩ : ∃ Y : Int, (y : Int) = Y := ⟨_, rfl⟩
          have hFI : (F : Int) = G * Y := by rw [← hF, ← hG, ← hY]; rfl
          have HFI : Hid ((F : Int) = G * Y) := hFI
          have g1 : 0 ≤ G * Y := by rw [← hFI]; omega
          have g2 : G * Y ≤ 999999999000000000 := by rw [← hFI]; omega
          have y1 : 0 ≤ Y := by omega
          have y2 : Y < 1000000000 := by omega
          rw [hY] at hcb
          have t1 : X < (C + G * Y) % 1000000000 := by omega
          have HHOV : Hid _ := hov
          clear hX hxb hov hC hG hY hFI hyb hF hFb hc hcf
          go_wp2
          go_roundw
          case rel =>
            refine ⟨i + 1, (c + F) / 1000000000 + 1, L.set i (x + 1000000000 - (c + F) % 1000000000), by omega, HCF.out, by simp [hLl], HOK.out, ?_, HDR.out, ?_, by go_num, HST.out, ?_⟩
            · have h := HR2.out (x + 1000000000)
              rw [show ((((x + 1000000000 - (c + F) % 1000000000)) : Nat) : Int) = _ from ?_, show (((x + 1000000000 : Nat)) : Int) = _ from ?_] at h
              · exact h
              · have := HX.out; have := HC.out; have := HHOV.out; have := HFI.out;  omega
              · have := HX.out; have := HC.out; have := HHOV.out; have := HFI.out;  omega
            · congr 1; have := HX.out; have := HC.out; have := HHOV.out; have := HFI.out;  omega
            · first | exact (HB2.out _ (.bool true)).1 | exact (HB2.out _ _).2
          case measure => simp [intOf]; omega
        · skip
          have hst := scaled_step (1000000000 ^ i) _ _ _ c x y (x - (c + F) % 1000000000) ((c + F) / 1000000000) f hval (by rw [hF]; omega)
          have HST : Hid (val ((L.set i (x - (c + F) % 1000000000)).take (i + 1)) + f * val (b.take (i + 1)) = val (A.take (i + 1)) + 1000000000 ^ (i + 1) * ((c + F) / 1000000000)) := by
            show val ((L.set i (x - (c + F) % 1000000000)).take (i + 1)) + f * val (b.take (i + 1)) = val (A.take (i + 1)) + 1000000000 ^ (i + 1) * ((c + F) / 1000000000)
            rw [val_take_set L i _ (by omega), val_take_succ, val_take_succ, hx, hy, Nat.pow_succ]
            exact hst
          have hfr := hR.frozen i
          have HR2 : Hid (∀ u : Nat, RowT ((wr.setCell ⟨R, i, none⟩ (.int .u32 (u : Nat))).setCell ⟨R, i, none⟩ (.int .u32 (((x - (c + F) % 1000000000) : Nat) : Int))) R (L.set i (x - (c + F) % 1000000000))) := fun u => by
            have h := (hR.set i u (by omega)).set i (x - (c + F) % 1000000000) (by simp; omega)
            rw [List.set_set] at h
            exact h
          have HR1 : Hid (RowT (wr.setCell ⟨R, i, none⟩ (.int .u32 (((x - (c + F) % 1000000000) : Nat) : Int))) R (L.set i (x - (c + F) % 1000000000))) := hR.set i _ (by omega)
          have HB2 : Hid (∀ u v, Below R w (wr.setCell ⟨R, i, none⟩ u) ∧ Below R w ((wr.setCell ⟨R, i, none⟩ u).setCell ⟨R, i, none⟩ v)) := fun u v => ⟨hB.setCell (Nat.le_refl _) u, (hB.setCell (Nat.le_refl _) u).setCell (Nat.le_refl _) v⟩
          have HOK : Hid (okL (L.set i (x - (c + F) % 1000000000))) := okL_set L hLok i _ (by omega)
          have HDR : Hid ((L.set i (x - (c + F) % 1000000000)).drop (i + 1) = A.drop (i + 1)) := drop_set_succ L A i _ hdr
          have HCF : Hid ((c + F) / 1000000000 ≤ f) := by
            show (c + F) / 1000000000 ≤ f
            omega
          clear hst hval hx hy hR hB hLok hdr
          obtain ⟨X, hX⟩ : ∃ X : Int, (x : Int) = X := ⟨_, rfl⟩
          have HX : Hid ((x : Int) = X) := hX
          have x1 : 0 ≤ X := by omega
          have x2 : X < 1000000000 := by omega
          rw [hX] at hcell
          obtain ⟨C, hC⟩ : ∃ C : Int, (c : Int) = C := ⟨_, rfl⟩
          have HC : Hid ((c : Int) = C) := hC
          have c1 : 0 ≤ C := by omega
          have c2 : C ≤ 1000000000 := by omega
          rw [hC]
          obtain ⟨G, hG⟩ : ∃ G : Int, (f : Int) = G := ⟨_, rfl⟩
          rw [hG]
          obtain ⟨Y, hY⟩ : ∃ Y : Int, (y : Int) = Y := ⟨_, rfl⟩
          have hFI : (F : Int) = G * Y := by rw [← hF, ← hG, ← hY]; rfl
          have HFI : Hid ((F : Int) = G * Y) := hFI
          have g1 : 0 ≤ G * Y := by rw [← hFI]; omega
          have g2 : G * Y ≤ 999999999000000000 := by rw [← hFI]; omega
          have y1 : 0 ≤ Y := by omega
          have y2 : Y < 1000000000 := by omega
          rw [hY] at hcb
          have t1 : (C + G * Y) % 1000000000 ≤ X := by omega
          have HHOV : Hid _ := hov
          clear hX hxb hov hC hG hY hFI hyb hF hFb hc hcf
          go_wp2
          go_roundw
          case rel =>
            refine ⟨i + 1, (c + F) / 1000000000, L.set i (x - (c + F) % 1000000000), by omega, HCF.out, by simp [hLl], HOK.out, ?_, HDR.out, ?_, by go_num, HST.out, ?_⟩
            · have h := HR1.out
              rw [show ((((x - (c + F) % 1000000000)) : Nat) : Int) = _ from ?_] at h
              · exact h
              · have := HX.out; have := HC.out; have := HHOV.out; have := HFI.out;  omega
            · congr 1; have := HX.out; have := HC.out; have := HHOV.out; have := HFI.out;  omega
            · first | exact (HB2.out _ (.bool true)).1 | exact (HB2.out _ _).2
          case measure => simp [intOf]; omega
      · have hy : b.getD i 0 = 0 := by rw [List.getD_eq_getElem?_getD, List.getElem?_eq_none (by omega)]; rfl
        by_cases hc0 : c = 0
        · subst hc0
          have hE : val (L.take n) + f * val b = val (A.take n) := by
            rw [Nat.mul_zero, Nat.add_zero, List.take_of_length_le (show b.length ≤ i by omega)] at hval
            exact (val_from A L i n hi hLl.symm hdr.symm (f * val b) hval.symm).symm
          have HE : Hid (RowT wr R L ∧ L.length = A.length ∧ okL L ∧ L.drop n = A.drop n ∧ val (L.take n) + f * val b = val (A.take n) + 1000000000 ^ n * 0 ∧ Below R w wr) := ⟨hR, hLl, hLok, by rw [show n = i + (n - i) by omega, ← List.drop_drop, ← List.drop_drop, hdr], by rw [hE, Nat.mul_zero, Nat.add_zero], hB⟩
          clear hE hval hR hB hLok hdr hx hy
          go_wp2
          go_ret
          obtain ⟨e1, e2, e3, e4, e5, e6⟩ := HE.out
          exact ⟨0, L, rfl, e1, e2, e3, e4, by omega, e5, e6⟩
        · by_cases hov : x < c % 1000000000
          · skip
            have hst := scaled_step (1000000000 ^ i) _ _ _ c x 0 (x + 1000000000 - c % 1000000000) (c / 1000000000 + 1) f hval (by rw [Nat.mul_zero]; omega)
            have HST : Hid (val ((L.set i (x + 1000000000 - c % 1000000000)).take (i + 1)) + f * val (b.take (i + 1)) = val (A.take (i + 1)) + 1000000000 ^ (i + 1) * (c / 1000000000 + 1)) := by
              show val ((L.set i (x + 1000000000 - c % 1000000000)).take (i + 1)) + f * val (b.take (i + 1)) = val (A.take (i + 1)) + 1000000000 ^ (i + 1) * (c / 1000000000 + 1)
              rw [val_take_set L i _ (by omega), val_take_succ, val_take_succ, hx, hy, Nat.pow_succ]
              exact hst
            have hfr := hR.frozen i
            have HR2 : Hid (∀ u : Nat, RowT ((wr.setCell ⟨R, i, none⟩ (.int .u32 (u : Nat))).setCell ⟨R, i, none⟩ (.int .u32 (((x + 1000000000 - c % 1000000000) : Nat) : Int))) R (L.set i (x + 1000000000 - c % 1000000000))) := fun u => by
              have h := (hR.set i u (by omega)).set i (x + 1000000000 - c % 1000000000) (by simp; omega)
              rw [List.set_set] at h
              exact h
            have HR1 : Hid (RowT (wr.setCell ⟨R, i, none⟩ (.int .u32 (((x + 1000000000 - c % 1000000000) : Nat) : Int))) R (L.set i (x + 1000000000 - c % 1000000000))) := hR.set i _ (by omega)
            have HB2 : Hid (∀ u v, Below R w (wr.setCell ⟨R, i, none⟩ u) ∧ Below R w ((wr.setCell ⟨R, i, none⟩ u).setCell ⟨R, i, none⟩ v)) := fun u v => ⟨hB.setCell (Nat.le_refl _) u, (hB.setCell (Nat.le_refl _) u).setCell (Nat.le_refl _) v⟩
            have HOK : Hid (okL (L.set i (x + 1000000000 - c % 1000000000))) := okL_set L hLok i _ (by omega)
            have HDR : Hid ((L.set i (x + 1000000000 - c % 1000000000)).drop (i + 1) = A.drop (i + 1)) := drop_set_succ L A i _ hdr
            have HCF : Hid (c / 1000000000 + 1 ≤ f) := by
              show c / 1000000000 + 1 ≤ f
              omega
            clear hst hval hx hy hR hB hLok hdr
            obtain ⟨X, hX⟩ : ∃ X : Int, (x : Int) = X := ⟨_, rfl⟩
            have HX : Hid ((x : Int) = X) := hX
            have x1 : 0 ≤ X := by omega
            have x2 : X < 1000000000 := by omega
            rw [hX] at hcell
            obtain ⟨C, hC⟩ : ∃ C : Int, (c : Int) = C := ⟨_, rfl⟩
            have HC : Hid ((c : Int) = C) := hC
            have c1 : 0 ≤ C := by omega
            have c2 : C ≤ 1000000000 := by omega
            rw [hC]
            obtain ⟨G, hG⟩ : ∃ G : Int, (f : Int) = G := ⟨_, rfl⟩
            rw [hG]
            have t1 : X < C % 1000000000 := by omega
            have HHOV : Hid _ := hov
            have t2 : 0 < C := by omega
            clear hX hxb hov hC hG hc0 hc hcf
            go_wp2
            go_roundw
            case rel =>
              refine ⟨i + 1, c / 1000000000 + 1, L.set i (x + 1000000000 - c % 1000000000), by omega, HCF.out, by simp [hLl], HOK.out, ?_, HDR.out, ?_, by go_num, HST.out, ?_⟩
              · have h := HR2.out (x + 1000000000)
                rw [show ((((x + 1000000000 - c % 1000000000)) : Nat) : Int) = _ from ?_, show (((x + 1000000000 : Nat)) : Int) = _ from ?_] at h
                · exact h
                · have := HX.out; have := HC.out; have := HHOV.out;  omega
                · have := HX.out; have := HC.out; have := HHOV.out;  omega
              · congr 1; have := HX.out; have := HC.out; have := HHOV.out;  omega
              · first | exact (HB2.out _ (.bool true)).1 | exact (HB2.out _ _).2
            case measure => simp [intOf]; omega
          · skip
            have hst := scaled_step (1000000000 ^ i) _ _ _ c x 0 (x - c % 1000000000) (c / 1000000000) f hval (by rw [Nat.mul_zero]; omega)
            have HST : Hid (val ((L.set i (x - c % 1000000000)).take (i + 1)) + f * val (b.take (i + 1)) = val (A.take (i + 1)) + 1000000000 ^ (i + 1) * (c / 1000000000)) := by
              show val ((L.set i (x - c % 1000000000)).take (i + 1)) + f * val (b.take (i + 1)) = val (A.take (i + 1)) + 1000000000 ^ (i + 1) * (c / 1000000000)
              rw [val_take_set L i _ (by omega), val_take_succ, val_take_succ, hx, hy, Nat.pow_succ]
              exact hst
            have hfr := hR.frozen i
            have HR2 : Hid (∀ u : Nat, RowT ((wr.setCell ⟨R, i, none⟩ (.int .u32 (u : Nat))).setCell ⟨R, i, none⟩ (.int .u32 (((x - c % 1000000000) : Nat) : Int))) R (L.set i (x - c % 1000000000))) := fun u => by
              have h := (hR.set i u (by omega)).set i (x - c % 1000000000) (by simp; omega)
              rw [List.set_set] at h
              exact h
            have HR1 : Hid (RowT (wr.setCell ⟨R, i, none⟩ (.int .u32 (((x - c % 1000000000) : Nat) : Int))) R (L.set i (x - c % 1000000000))) := hR.set i _ (by omega)
            have HB2 : Hid (∀ u v, Below R w (wr.setCell ⟨R, i, none⟩ u) ∧ Below R w ((wr.setCell ⟨R, i, none⟩ u).setCell ⟨R, i, none⟩ v)) := fun u v => ⟨hB.setCell (Nat.le_refl _) u, (hB.setCell (Nat.le_refl _) u).setCell (Nat.le_refl _) v⟩
            have HOK : Hid (okL (L.set i (x - c % 1000000000))) := okL_set L hLok i _ (by omega)
            have HDR : Hid ((L.set i (x - c % 1000000000)).drop (i + 1) = A.drop (i + 1)) := drop_set_succ L A i _ hdr
            have HCF : Hid (c / 1000000000 ≤ f) := by
              show c / 1000000000 ≤ f
              omega
            clear hst hval hx hy hR hB hLok hdr
            obtain ⟨X, hX⟩ : ∃ X : Int, (x : Int) = X := ⟨_, rfl⟩
            have HX : Hid ((x : Int) = X) := hX
            have x1 : 0 ≤ X := by omega
            have x2 : X < 1000000000 := by omega
            rw [hX] at hcell
            obtain ⟨C, hC⟩ : ∃ C : Int, (c : Int) = C := ⟨_, rfl⟩
            have HC : Hid ((c : Int) = C) := hC
            have c1 : 0 ≤ C := by omega
            have c2 : C ≤ 1000000000 := by omega
            rw [hC]
            obtain ⟨G, hG⟩ : ∃ G : Int, (f : Int) = G := ⟨_, rfl⟩
            rw [hG]
            have t1 : C % 1000000000 ≤ X := by omega
            have HHOV : Hid _ := hov
            have t2 : 0 < C := by omega
            clear hX hxb hov hC hG hc0 hc hcf
            go_wp2
            go_roundw
            case rel =>
              refine ⟨i + 1, c / 1000000000, L.set i (x - c % 1000000000), by omega, HCF.out, by simp [hLl], HOK.out, ?_, HDR.out, ?_, by go_num, HST.out, ?_⟩
              · have h := HR1.out
                rw [show ((((x - c % 1000000000)) : Nat) : Int) = _ from ?_] at h
                · exact h
                · have := HX.out; have := HC.out; have := HHOV.out;  omega
              · congr 1; have := HX.out; have := HC.out; have := HHOV.out;  omega
              · first | exact (HB2.out _ (.bool true)).1 | exact (HB2.out _ _).2
            case measure => simp [intOf]; omega
    · obtain rfl : i = n := by omega
      rw [List.take_of_length_le (show b.length ≤ i by omega)] at hval
      have HE : Hid (RowT wr R L ∧ L.length = A.length ∧ okL L ∧ L.drop i = A.drop i ∧ val (L.take i) + f * val b = val (A.take i) + 1000000000 ^ i * c ∧ Below R w wr) := ⟨hR, hLl, hLok, hdr, hval, hB⟩
      clear hval hR hB hLok hdr
      go_wp2
      go_ret
      obtain ⟨e1, e2, e3, e4, e5, e6⟩ := HE.out
      exact ⟨c, L, rfl, e1, e2, e3, e4, hcf, e5, e6⟩
end Go.Proofs.YtpjnglcojamfmaaDoor
namespace Go.Proofs.YtpjnglcojamfmaaDoor
open Go.ChangeShapes Go.WideShapes Go.ChangeAt Go.RowKit
theorem sub_step (P A Bv La c x y d c' : Nat) (h : La + Bv = A + P * c) (hd : d + c + y = x + 1000000000 * c') : La + P * d + (Bv + P * y) = A + P * x + P * 1000000000 * c' := by
  have h1 : P * (d + c + y) = P * (x + 1000000000 * c') := by rw [hd]
  rw [Nat.mul_add, Nat.mul_add, Nat.mul_add, ← Nat.mul_assoc] at h1
  omega
theorem sub_end (P c A Bv V : Nat) (h : V + Bv = A + P * c) (hV : V < P) (hB : Bv ≤ A) : V + Bv = A := by
  cases c with
  | zero => rw [Nat.mul_zero] at h; omega
  | succ c =>
    rw [Nat.mul_succ] at h
    generalize P * c = X at h
    omega
set_option maxRecDepth 100000 in
set_option maxHeartbeats 2000000 in
theorem l1SubD_any (B : Nat) (va vb : Value) (a b : List Nat) (w : World) (ha : IsL B w va a) (hb : IsL B w vb b) (hla : a.length ≤ 1000000) (hlb : b.length ≤ a.length) (hle : val b ≤ val a) :
    Calls Tryd.prog 59 #[va, vb] w fun e w' => ∃ v L, e = .returned v ∧ IsL w.heap.size w' v L ∧ val L + val b = val a ∧ Below w.heap.size w w' := by
  obtain ⟨i0, hinf, hz0, hz1, hz2⟩ := info_parts Tryd.info_u32
  obtain ⟨pa, ca, rfl, _⟩ := id ha
  obtain ⟨pb, cb, rfl, _⟩ := id hb
  obtain ⟨_, _, _, haok, hca⟩ := ha.cells
  obtain ⟨_, _, _, hbok, hcb⟩ := hb.cells
  have HA : Hid (∀ i, i < a.length → ∃ b off, pa = some ⟨b, off, none⟩ ∧ b < w.heap.size ∧ w.cell? ⟨b, off + i, none⟩ = some (.int .u32 (a.getD i 0 : Nat))) := hca
  have HB : Hid (∀ i, i < b.length → ∃ c off, pb = some ⟨c, off, none⟩ ∧ c < w.heap.size ∧ w.cell? ⟨c, off + i, none⟩ = some (.int .u32 (b.getD i 0 : Nat))) := hcb
  have HLE : Hid (val b ≤ val a) := hle
  clear hca hcb ha hb hle
  go_enter Tryd.func59, Tryd.ntmps59
  go_wp2_with (at_make; refine wpList_make_full _ rfl _ _ 26 rfl w.heap.size 51 i0 (.int .u32 0) 1 Tryd.underlying26 hinf hz0 hz1 .i64 .i64 _ _ a.length rfl rfl ?m0 ?m1 ?m2 ?m3 ?m4 ?_)
  try (case m0 => first | rfl | omega)
  try (case m1 => first | rfl | omega)
  try (case m2 => (first | omega | (rw [hz2]; omega)))
  try (case m3 => (unfold maxLen; omega))
  try (case m4 => exact Nat.le_refl _)
  intro w1 hown hgr
  first | rw [made_zero] at hown | rw [made_zero'] at hown
  have hR : Row w1 w.heap.size (List.replicate a.length 0) := row_of_full hown
  have hB1 : Below w.heap.size w w1 := (Below.refl _ _).grown hgr (Nat.le_refl _) (fun k h => by cases h)
  clear hown hgr
  go_wp2
  go_loopw [6, 14] (fun cv iv wr => ∃ (i c : Nat) (L : List Nat), i ≤ a.length ∧ c ≤ 1 ∧ L.length = a.length ∧ okL L ∧ Row wr w.heap.size L ∧ cv = .int .i64 (c : Nat) ∧ iv = .int .i64 i ∧
      val (L.take i) + val (b.take i) = val (a.take i) + 1000000000 ^ i * c ∧ Below w.heap.size w wr) (fun _ iv _ => a.length - (intOf iv).toNat)
  case atStart => exact ⟨0, 0, _, by omega, by omega, by simp, fun x hx => by rw [List.eq_of_mem_replicate hx]; omega, hR, rfl, rfl, by simp [val], hB1⟩
  case round =>
    clear hR hB1
    obtain ⟨i, c, L, hi, hc, hLl, hLok, hR, rfl, rfl, hval, hB⟩ := hrel
    by_cases hin : i < a.length
    · obtain ⟨ba, oa, rfl, hla', hca⟩ := HA.out i hin
      rw [← hB.cell (p := ⟨ba, oa + i, none⟩) hla'] at hca
      have hxb := okL_getD a haok i hin
      obtain ⟨x, hx⟩ : ∃ x, a.getD i 0 = x := ⟨_, rfl⟩
      rw [hx] at hca hxb
      by_cases hib : i < b.length
      · obtain ⟨bb, ob, rfl, hlb', hcb⟩ := HB.out i hib
        rw [← hB.cell (p := ⟨bb, ob + i, none⟩) hlb'] at hcb
        have hyb := okL_getD b hbok i hib
        obtain ⟨y, hy⟩ : ∃ y, b.getD i 0 = y := ⟨_, rfl⟩
        rw [hy] at hcb hyb
        by_cases hbor : x < c + y
        · have hst := sub_step (1000000000 ^ i) _ _ _ c x y (x + 1000000000 - c - y) 1 hval (by omega)
          have HST : Hid (val ((L.set i (x + 1000000000 - c - y)).take (i + 1)) + val (b.take (i + 1)) = val (a.take (i + 1)) + 1000000000 ^ (i + 1) * 1) := by
            show val ((L.set i (x + 1000000000 - c - y)).take (i + 1)) + val (b.take (i + 1)) = val (a.take (i + 1)) + 1000000000 ^ (i + 1) * 1
            rw [val_take_set L i _ (by omega), val_take_succ, val_take_succ, hx, hy, Nat.pow_succ]
            exact hst
          have hcell := hR.cell i (by omega)
          have hfr := hR.frozen i
          have HR2 : Hid (Row (wr.setCell ⟨w.heap.size, i, none⟩ (.int .u32 (((x + 1000000000 - c - y) : Nat) : Int))) w.heap.size (L.set i (x + 1000000000 - c - y))) := hR.set i _
          have HB2 : Hid (∀ u, Below w.heap.size w (wr.setCell ⟨w.heap.size, i, none⟩ u)) := fun u => hB.setCell (Nat.le_refl _) u
          have HOK : Hid (okL (L.set i (x + 1000000000 - c - y))) := okL_set L hLok i _ (by omega)
          clear hst hval hx hy hR hB hLok
          go_wp2
          go_roundw
          case rel =>
            refine ⟨i + 1, 1, L.set i (x + 1000000000 - c - y), by omega, by omega, by simp [hLl], HOK.out, ?_, rfl, by go_num, HST.out, HB2.out _⟩
            have h := HR2.out
            rw [show ((((x + 1000000000 - c - y)) : Nat) : Int) = _ from ?_] at h
            · exact h
            · omega
          case measure => simp [intOf]; omega
        · have hst := sub_step (1000000000 ^ i) _ _ _ c x y (x - c - y) 0 hval (by omega)
          have HST : Hid (val ((L.set i (x - c - y)).take (i + 1)) + val (b.take (i + 1)) = val (a.take (i + 1)) + 1000000000 ^ (i + 1) * 0) := by
            show val ((L.set i (x - c - y)).take (i + 1)) + val (b.take (i + 1)) = val (a.take (i + 1)) + 1000000000 ^ (i + 1) * 0
            rw [val_take_set L i _ (by omega), val_take_succ, val_take_succ, hx, hy, Nat.pow_succ]
            exact hst
          have hcell := hR.cell i (by omega)
          have hfr := hR.frozen i
          have HR2 : Hid (Row (wr.setCell ⟨w.heap.size, i, none⟩ (.int .u32 (((x - c - y) : Nat) : Int))) w.heap.size (L.set i (x - c - y))) := hR.set i _
          have HB2 : Hid (∀ u, Below w.heap.size w (wr.setCell ⟨w.heap.size, i, none⟩ u)) := fun u => hB.setCell (Nat.le_refl _) u
          have HOK : Hid (okL (L.set i (x - c - y))) := okL_set L hLok i _ (by omega)
          clear hst hval hx hy hR hB hLok
          go_wp2
          go_roundw
          case rel =>
            refine ⟨i + 1, 0, L.set i (x - c - y), by omega, by omega, by simp [hLl], HOK.out, ?_, rfl, by go_num, HST.out, HB2.out _⟩
            have h := HR2.out
            rw [show ((((x - c - y)) : Nat) : Int) = _ from ?_] at h
            · exact h
            · omega
          case measure => simp [intOf]; omega
      · have hy0 : b.getD i 0 = 0 := by rw [List.getD_eq_getElem?_getD, List.getElem?_eq_none (by omega)]; rfl
        by_cases hbor : x < c
        · have hst := sub_step (1000000000 ^ i) _ _ _ c x 0 (x + 1000000000 - c) 1 hval (by omega)
          have HST : Hid (val ((L.set i (x + 1000000000 - c)).take (i + 1)) + val (b.take (i + 1)) = val (a.take (i + 1)) + 1000000000 ^ (i + 1) * 1) := by
            show val ((L.set i (x + 1000000000 - c)).take (i + 1)) + val (b.take (i + 1)) = val (a.take (i + 1)) + 1000000000 ^ (i + 1) * 1
            rw [val_take_set L i _ (by omega), val_take_succ, val_take_succ, hx, hy0, Nat.pow_succ]
            exact hst
          have hcell := hR.cell i (by omega)
          have hfr := hR.frozen i
          have HR2 : Hid (Row (wr.setCell ⟨w.heap.size, i, none⟩ (.int .u32 (((x + 1000000000 - c) : Nat) : Int))) w.heap.size (L.set i (x + 1000000000 - c))) := hR.set i _
          have HB2 : Hid (∀ u, Below w.heap.size w (wr.setCell ⟨w.heap.size, i, none⟩ u)) := fun u => hB.setCell (Nat.le_refl _) u
          have HOK : Hid (okL (L.set i (x + 1000000000 - c))) := okL_set L hLok i _ (by omega)
          clear hst hval hx hy0 hR hB hLok
          go_wp2
          go_roundw
          case rel =>
            refine ⟨i + 1, 1, L.set i (x + 1000000000 - c), by omega, by omega, by simp [hLl], HOK.out, ?_, rfl, by go_num, HST.out, HB2.out _⟩
            have h := HR2.out
            rw [show ((((x + 1000000000 - c)) : Nat) : Int) = _ from ?_] at h
            · exact h
            · omega
          case measure => simp [intOf]; omega
        · have hst := sub_step (1000000000 ^ i) _ _ _ c x 0 (x - c) 0 hval (by omega)
          have HST : Hid (val ((L.set i (x - c)).take (i + 1)) + val (b.take (i + 1)) = val (a.take (i + 1)) + 1000000000 ^ (i + 1) * 0) := by
            show val ((L.set i (x - c)).take (i + 1)) + val (b.take (i + 1)) = val (a.take (i + 1)) + 1000000000 ^ (i + 1) * 0
            rw [val_take_set L i _ (by omega), val_take_succ, val_take_succ, hx, hy0, Nat.pow_succ]
            exact hst
          have hcell := hR.cell i (by omega)
          have hfr := hR.frozen i
          have HR2 : Hid (Row (wr.setCell ⟨w.heap.size, i, none⟩ (.int .u32 (((x - c) : Nat) : Int))) w.heap.size (L.set i (x - c))) := hR.set i _
          have HB2 : Hid (∀ u, Below w.heap.size w (wr.setCell ⟨w.heap.size, i, none⟩ u)) := fun u => hB.setCell (Nat.le_refl _) u
          have HOK : Hid (okL (L.set i (x - c))) := okL_set L hLok i _ (by omega)
          clear hst hval hx hy0 hR hB hLok
          go_wp2
          go_roundw
          case rel =>
            refine ⟨i + 1, 0, L.set i (x - c), by omega, by omega, by simp [hLl], HOK.out, ?_, rfl, by go_num, HST.out, HB2.out _⟩
            have h := HR2.out
            rw [show ((((x - c)) : Nat) : Int) = _ from ?_] at h
            · exact h
            · omega
          case measure => simp [intOf]; omega
    · obtain rfl : i = a.length := by omega
      have hE := sub_end (1000000000 ^ a.length) c _ _ _ hval (by rw [List.take_of_length_le (by omega)]; exact val_lt_of L hLok _ (by omega)) (by rw [List.take_of_length_le (by omega), List.take_of_length_le (by omega)]; exact HLE.out)
      rw [List.take_of_length_le (by omega), List.take_of_length_le (by omega), List.take_of_length_le (by omega)] at hE
      have HE : Hid (val L + val b = val a) := hE
      have HL : Hid (IsL w.heap.size wr (.slice (some ⟨w.heap.size, 0, none⟩) a.length a.length) L) := by
        have := hR.isL (B := w.heap.size) (cap := a.length) (Nat.le_refl _) hLok (by omega) (by unfold maxLen; omega)
        rw [hLl] at this
        exact this
      have HBE : Hid (Below w.heap.size w wr) := hB
      clear hE hval hR hB hLok
      go_wp2
      go_ret
      exact ⟨_, L, rfl, HL.out, HE.out, HBE.out⟩
end Go.Proofs.YtpjnglcojamfmaaDoor
