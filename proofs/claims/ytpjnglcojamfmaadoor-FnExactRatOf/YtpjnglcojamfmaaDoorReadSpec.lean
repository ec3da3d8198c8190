import Derived.Test.YtpjnglcojamfmaaDoorReadImpl
import Derived.Test.YtpjnglcojamfmaaDoorM2
import Derived.Maps.AppendAt
namespace Go.Proofs.YtpjnglcojamfmaaDoor
open Go.ChangeShapes Go.WideShapes Go.ChangeAt Go.RowKit
def part (d : List UInt8) (a b : Nat) : Nat := num ((d.take b).drop a)
theorem part_self (d : List UInt8) (a : Nat) : part d a a = 0 := by
  unfold part; rw [List.drop_eq_nil_of_le (List.length_take_le _ _)]; rfl
theorem part_succ (d : ByteArray) (a j : Nat) (h1 : a ≤ j) (h2 : j < d.size) : part d.data.toList a (j + 1) = part d.data.toList a j * 10 + (d[j].toNat - 48) := by
  unfold part
  rw [take_snoc d j h2, List.drop_append_of_le_length (by rw [List.length_take, ← Lib.size_eq]; omega), num_snoc]
theorem part_succ' (d : ByteArray) (dl : List UInt8) (hd : d.data.toList = dl) (a j : Nat) (h1 : a ≤ j) (h2 : j < d.size) : part dl a (j + 1) = part dl a j * 10 + (d[j].toNat - 48) := by
  subst hd; exact part_succ d a j h1 h2
theorem part_lt8 (d : List UInt8) (h : ∀ c ∈ d, dig c) (a j : Nat) (hj : j < a + 9) : part d a j < 100000000 := by
  unfold part
  have h1 := num_lt ((d.take j).drop a) (fun c hc => h c (List.mem_of_mem_take (List.mem_of_mem_drop hc)))
  have h2 : ((d.take j).drop a).length ≤ 8 := by rw [List.length_drop, List.length_take]; omega
  have h3 : 10 ^ ((d.take j).drop a).length ≤ 10 ^ 8 := Nat.pow_le_pow_right (by omega) h2
  have : (10 : Nat) ^ 8 = 100000000 := by decide
  omega
theorem IsZ.setCell {B : Nat} {w : World} {z : Value} {neg : Bool} {t : List Nat} (h : IsZ B w z neg t) (p : Addr) (u : Value) (hp : p.block < B) : IsZ B (w.setCell p u) z neg t := by
  obtain ⟨h1, h2, h3⟩ := h
  refine ⟨h1, h2, ?_⟩
  rcases h3 with ⟨h3, v, rfl, hv⟩ | h3
  · exact .inl ⟨h3, v, rfl, hv.setCell p u hp⟩
  · exact .inr h3
theorem IsZ.mono {B B' : Nat} {w : World} {z : Value} {neg : Bool} {t : List Nat} (h : IsZ B w z neg t) (hb : B' ≤ B) : IsZ B' w z neg t := by
  obtain ⟨h1, h2, h3⟩ := h
  refine ⟨h1, h2, ?_⟩
  rcases h3 with ⟨h3, v, rfl, hv⟩ | h3
  · exact .inl ⟨h3, v, rfl, hv.mono hb⟩
  · exact .inr h3
theorem IsZ.shape {B : Nat} {w : World} {z : Value} {neg : Bool} {t : List Nat} (h : IsZ B w z neg t) : ∃ (z0 : Int) (zn : Bool) (za : Option Addr) (zl zc : Nat), z = .agg #[.int .i64 z0, .bool zn, .slice za zl zc] := by
  obtain ⟨h1, h2, h3⟩ := h
  rcases h3 with ⟨h3, v, rfl, a, cap, rfl, _⟩ | ⟨_, rfl⟩
  · exact ⟨_, _, _, _, _, rfl⟩
  · exact ⟨_, _, _, _, _, rfl⟩
set_option maxRecDepth 100000 in
set_option maxHeartbeats 2000000 in
theorem l1Read_pos (s : ByteArray) (w : World) (hi : isIntB s = true) (hn : isNeg s = false) :
    Calls Tryd.prog 12 #[.string s] w fun e w' => ∃ z, e = .returned z ∧ IsZ w.heap.size w' z false (trimL (chunks (s).data.toList)) ∧ Below w.heap.size w w' := by
  obtain ⟨hdig, hd1, hd2⟩ := isIntB_dig s hi
  rw [dgs_pos s hn] at hdig hd1 hd2
  obtain ⟨dl, hdl⟩ : ∃ dl, (s).data.toList = dl := ⟨_, rfl⟩
  have HDL : Hid ((s).data.toList = dl) := hdl
  have HZ : Hid (dl.length = s.size) := by show dl.length = s.size; rw [← hdl, ← Lib.size_eq]
  rw [Lib.size_eq, hdl, HZ.out] at hd1 hd2
  rw [hdl] at hdig ⊢
  have HG : Hid (∀ c ∈ dl, dig c) := hdig
  have hs0 : 0 < s.size := by omega
  have hm : ((s[0].toNat : Int) == 45) = false := by
    have := isNeg_no s hn hs0; simp; omega
  obtain ⟨i0, hinf, hz0, hz1, hz2⟩ := info_parts Tryd.info_u32
  obtain ⟨W0, hW0⟩ : ∃ W0, w.alloc (.cells #[.int .i64 0, .bool false, .slice none 0 0] 28) = W0 := ⟨_, rfl⟩
  have HW0 : Hid (w.alloc (.cells #[.int .i64 0, .bool false, .slice none 0 0] 28) = W0) := hW0
  have hsz : W0.heap.size = w.heap.size + 1 := by rw [← hW0]; simp
  have HSZ : Hid (W0.heap.size = w.heap.size + 1) := hsz
  clear hi hdig hsz hW0 hn hdl
  go_enter Tryd.func12, Tryd.ntmps12
  go_wp2
  rw [HW0.out]
  go_loopw [4, 5] (fun v e wr => ∃ k : Nat, 9 * k ≤ s.size + 8 ∧ e = .int .i64 ((s.size : Nat) - 9 * k) ∧
      wr.ownsRow (w.heap.size + 1) 51 1 v k ((List.range k).map (fun i => Value.int .u32 (chunk dl i : Nat))) ∧ Below (w.heap.size + 1) W0 wr)
    (fun _ e _ => (intOf e).toNat)
  case atStart => exact ⟨0, by omega, val_int (by omega), World.ownsRow_nil _ _ _ _, Below.refl _ _⟩
  case round =>
    obtain ⟨k, hk, rfl, hown, hB⟩ := hrel
    by_cases hlt : 9 * k < s.size
    · by_cases h9 : 9 * k + 9 ≤ s.size
      ·
        go_wp2_with fail
        go_loop [7, 8] (fun t i => ∃ j : Nat, s.size - 9 * k - 9 ≤ j ∧ j ≤ s.size - 9 * k ∧ i = .int .i64 j ∧ t = .int .u32 (part dl (s.size - 9 * k - 9) j : Nat)) (fun _ i => s.size - 9 * k - (intOf i).toNat)
        case atStart => exact ⟨s.size - 9 * k - 9, Nat.le_refl _, by omega, val_int (by omega), by rw [part_self]; rfl⟩
        case round =>
          obtain ⟨j, hj1, hj2, rfl, rfl⟩ := hrel
          by_cases hjl : j < s.size - 9 * k
          · have hjD : j < (s).size := by rw [Lib.size_eq, HDL.out, HZ.out]; omega
            have hjZ : j < s.size := by omega
            have hpb := part_lt8 dl HG.out (s.size - 9 * k - 9) j (by omega)
            have hcd := dig_at (s) (by rw [HDL.out]; exact HG.out) j hjD
            have HS : Hid (part dl (s.size - 9 * k - 9) (j + 1) = part dl (s.size - 9 * k - 9) j * 10 + ((s)[j].toNat - 48)) := part_succ' (s) dl HDL.out (s.size - 9 * k - 9) j hj1 hjD
            go_wp2
            go_round
            case rel => exact ⟨j + 1, by omega, by omega, by go_num, by rw [HS.out]; exact val_int (by omega)⟩
            case measure => simp [intOf]; omega
          · have hje : j = s.size - 9 * k := by omega
            have HCH : Hid (part dl (s.size - 9 * k - 9) j = chunk dl k) := by
              show part dl (s.size - 9 * k - 9) j = chunk dl k
              rw [hje]; unfold part chunk; rw [HZ.out]
            have hch := chunk_lt dl k HG.out
            rw [HCH.out]
            clear hje HCH
            go_wp2_with (at_builtin; refine wpList_append_own _ rfl _ _ 26 rfl (w.heap.size + 1) 51 i0 (.int .u32 0) 1 4 Tryd.underlying26 hinf hz0 hz1 hz2 rfl (by decide) _ _ _ rfl (hown.alloc _) ⟨wr.heap.size, 0, none⟩ 1 1 [.int .u32 (chunk dl k : Nat)] rfl rfl (cell_one_new _ _ _) ?pac2 ?pac3 ?pac4 ?pac5 ?_)
            case pac2 => first | rfl | (intro u hu; simp at hu; subst hu; rfl)
            case pac3 => unfold maxLen; omega
            case pac4 => omega
            case pac5 => have := hB.size; have := HSZ.out; simp; omega
            intro v' w1 hown' hgrow' _
            have hB' : Below (w.heap.size + 1) W0 w1 := (hB.alloc (by have := hB.size; have := HSZ.out; omega) _).grown hgrow' (by have := hB.size; have := HSZ.out; simp; omega) (fun q hq => (hown.lt q hq).1)
            clear hgrow' hown hB
            go_wp2
            go_roundw
            case rel => exact ⟨k + 1, by omega, val_int (by omega), by rw [List.range_succ, List.map_append]; exact hown', hB'⟩
            case measure => simp [intOf]; omega
      ·
        go_wp2_with fail
        go_loop [7, 8] (fun t i => ∃ j : Nat, 0 ≤ j ∧ j ≤ s.size - 9 * k ∧ i = .int .i64 j ∧ t = .int .u32 (part dl (0) j : Nat)) (fun _ i => s.size - 9 * k - (intOf i).toNat)
        case atStart => exact ⟨0, Nat.le_refl _, by omega, val_int (by omega), by rw [part_self]; rfl⟩
        case round =>
          obtain ⟨j, hj1, hj2, rfl, rfl⟩ := hrel
          by_cases hjl : j < s.size - 9 * k
          · have hjD : j < (s).size := by rw [Lib.size_eq, HDL.out, HZ.out]; omega
            have hjZ : j < s.size := by omega
            have hpb := part_lt8 dl HG.out (0) j (by omega)
            have hcd := dig_at (s) (by rw [HDL.out]; exact HG.out) j hjD
            have HS : Hid (part dl (0) (j + 1) = part dl (0) j * 10 + ((s)[j].toNat - 48)) := part_succ' (s) dl HDL.out (0) j hj1 hjD
            go_wp2
            go_round
            case rel => exact ⟨j + 1, by omega, by omega, by go_num, by rw [HS.out]; exact val_int (by omega)⟩
            case measure => simp [intOf]; omega
          · have hje : j = s.size - 9 * k := by omega
            have HCH : Hid (part dl (0) j = chunk dl k) := by
              show part dl (0) j = chunk dl k
              rw [hje]; unfold part chunk; rw [HZ.out]; rw [show s.size - 9 * k - 9 = 0 by omega]
            have hch := chunk_lt dl k HG.out
            rw [HCH.out]
            clear hje HCH
            go_wp2_with (at_builtin; refine wpList_append_own _ rfl _ _ 26 rfl (w.heap.size + 1) 51 i0 (.int .u32 0) 1 4 Tryd.underlying26 hinf hz0 hz1 hz2 rfl (by decide) _ _ _ rfl (hown.alloc _) ⟨wr.heap.size, 0, none⟩ 1 1 [.int .u32 (chunk dl k : Nat)] rfl rfl (cell_one_new _ _ _) ?pbc2 ?pbc3 ?pbc4 ?pbc5 ?_)
            case pbc2 => first | rfl | (intro u hu; simp at hu; subst hu; rfl)
            case pbc3 => unfold maxLen; omega
            case pbc4 => omega
            case pbc5 => have := hB.size; have := HSZ.out; simp; omega
            intro v' w1 hown' hgrow' _
            have hB' : Below (w.heap.size + 1) W0 w1 := (hB.alloc (by have := hB.size; have := HSZ.out; omega) _).grown hgrow' (by have := hB.size; have := HSZ.out; simp; omega) (fun q hq => (hown.lt q hq).1)
            clear hgrow' hown hB
            go_wp2
            go_roundw
            case rel => exact ⟨k + 1, by omega, val_int (by omega), by rw [List.range_succ, List.map_append]; exact hown', hB'⟩
            case measure => simp [intOf]; omega
    · have hkc : k = cnt (s.size) := by unfold cnt; omega
      have hL : IsL (w.heap.size + 1) wr u4 (chunks dl) := by
        unfold chunks
        rw [HZ.out, ← hkc]
        refine isL_of_owns (e := 51) ?_ (fun x hx => ?_)
        · simpa [Function.comp_def] using hown
        · rw [List.mem_map] at hx
          obtain ⟨i, _, rfl⟩ := hx
          exact chunk_lt dl i HG.out
      have HL : Hid (IsL (w.heap.size + 1) wr u4 (chunks dl)) := hL
      clear hL hown hkc
      go_wp2_with fail
      refine (l1Make_any _ _ _ _ _ HL.out).mono ?_
      rintro e w1 ⟨z, rfl, hcut, hb1⟩
      have hZ := (hcut _ _ HL.out).below hb1
      have hB1 : Below (w.heap.size + 1) W0 w1 := hB.trans (hb1.mono (by have := hB.size; have := HSZ.out; omega))
      have hc0 : w1.cell? ⟨w.heap.size, 0, none⟩ = some (.int .i64 0) := by
        rw [hB1.cell (p := ⟨w.heap.size, 0, none⟩) (Nat.lt_succ_self _), ← HW0.out, World.cell?_alloc_at _ _ _ _ rfl]; rfl
      have hc1 : w1.cell? ⟨w.heap.size, 1, none⟩ = some (.bool false) := by
        rw [hB1.cell (p := ⟨w.heap.size, 1, none⟩) (Nat.lt_succ_self _), ← HW0.out, World.cell?_alloc_at _ _ _ _ rfl]; rfl
      have hc2 : w1.cell? ⟨w.heap.size, 2, none⟩ = some (.slice none 0 0) := by
        rw [hB1.cell (p := ⟨w.heap.size, 2, none⟩) (Nat.lt_succ_self _), ← HW0.out, World.cell?_alloc_at _ _ _ _ rfl]; rfl
      have hf0 : w1.frozen? ⟨w.heap.size, 0, none⟩ = false := by
        rw [hB1.frozen (p := ⟨w.heap.size, 0, none⟩) (Nat.lt_succ_self _), ← HW0.out, World.frozen?_alloc_at _ _ _ _ rfl]
      have hf1 : w1.frozen? ⟨w.heap.size, 1, none⟩ = false := by
        rw [hB1.frozen (p := ⟨w.heap.size, 1, none⟩) (Nat.lt_succ_self _), ← HW0.out, World.frozen?_alloc_at _ _ _ _ rfl]
      have hf2 : w1.frozen? ⟨w.heap.size, 2, none⟩ = false := by
        rw [hB1.frozen (p := ⟨w.heap.size, 2, none⟩) (Nat.lt_succ_self _), ← HW0.out, World.frozen?_alloc_at _ _ _ _ rfl]
      have hlast : Below w.heap.size w w1 := by
        have h0 := below_alloc w (.cells #[.int .i64 0, .bool false, .slice none 0 0] 28)
        rw [HW0.out] at h0
        exact h0.trans (hB1.mono (Nat.le_succ _))
      have HB : Hid (Below w.heap.size w w1) := hlast
      have HZZ : Hid (IsZ (w.heap.size + 1) w1 z false (trimL (chunks dl))) := hZ
      obtain ⟨z0, zn, za, zl, zc, hzz⟩ := hZ.shape
      subst hzz
      clear hcut hb1 hB1 hB hlast hZ
      go_wp2
      refine bodyPost_ret ?_ rfl ⟨_, rfl, (((HZZ.out.setCell _ _ (Nat.lt_succ_self _)).setCell _ _ (Nat.lt_succ_self _)).setCell _ _ (Nat.lt_succ_self _)).mono (Nat.le_succ _), ((HB.out.setCell (Nat.le_refl _) _).setCell (Nat.le_refl _) _).setCell (Nat.le_refl _) _⟩
      simp [results, Tryd.results12, go_sem, hc0, hc1, hc2]
set_option maxRecDepth 100000 in
set_option maxHeartbeats 2000000 in
theorem l1Read_neg (s : ByteArray) (w : World) (hi : isIntB s = true) (hn : isNeg s = true) :
    Calls Tryd.prog 12 #[.string s] w fun e w' => ∃ z, e = .returned z ∧ IsZ w.heap.size w' z true (trimL (chunks (s.extract 1 s.size).data.toList)) ∧ Below w.heap.size w w' := by
  obtain ⟨hdig, hd1, hd2⟩ := isIntB_dig s hi
  rw [dgs_neg s hn] at hdig hd1 hd2
  obtain ⟨dl, hdl⟩ : ∃ dl, (s.extract 1 s.size).data.toList = dl := ⟨_, rfl⟩
  have HDL : Hid ((s.extract 1 s.size).data.toList = dl) := hdl
  have HZ : Hid (dl.length = (s.size - 1)) := by show dl.length = (s.size - 1); rw [← hdl, ← Lib.size_eq]; exact ext_size s
  rw [Lib.size_eq, hdl, HZ.out] at hd1 hd2
  rw [hdl] at hdig ⊢
  have HG : Hid (∀ c ∈ dl, dig c) := hdig
  have hs0 : 0 < s.size := by omega
  have hm : ((s[0].toNat : Int) == 45) = true := by
    have := (isNeg_yes s hn).2; simp; omega
  obtain ⟨i0, hinf, hz0, hz1, hz2⟩ := info_parts Tryd.info_u32
  obtain ⟨W0, hW0⟩ : ∃ W0, w.alloc (.cells #[.int .i64 0, .bool false, .slice none 0 0] 28) = W0 := ⟨_, rfl⟩
  have HW0 : Hid (w.alloc (.cells #[.int .i64 0, .bool false, .slice none 0 0] 28) = W0) := hW0
  have hsz : W0.heap.size = w.heap.size + 1 := by rw [← hW0]; simp
  have HSZ : Hid (W0.heap.size = w.heap.size + 1) := hsz
  clear hi hdig hsz hW0 hn hdl
  go_enter Tryd.func12, Tryd.ntmps12
  go_wp2
  rw [HW0.out]
  go_loopw [4, 5] (fun v e wr => ∃ k : Nat, 9 * k ≤ (s.size - 1) + 8 ∧ e = .int .i64 (((s.size - 1) : Nat) - 9 * k) ∧
      wr.ownsRow (w.heap.size + 1) 51 1 v k ((List.range k).map (fun i => Value.int .u32 (chunk dl i : Nat))) ∧ Below (w.heap.size + 1) W0 wr)
    (fun _ e _ => (intOf e).toNat)
  case atStart => exact ⟨0, by omega, val_int (by omega), World.ownsRow_nil _ _ _ _, Below.refl _ _⟩
  case round =>
    obtain ⟨k, hk, rfl, hown, hB⟩ := hrel
    by_cases hlt : 9 * k < (s.size - 1)
    · by_cases h9 : 9 * k + 9 ≤ (s.size - 1)
      ·
        go_wp2_with fail
        go_loop [7, 8] (fun t i => ∃ j : Nat, (s.size - 1) - 9 * k - 9 ≤ j ∧ j ≤ (s.size - 1) - 9 * k ∧ i = .int .i64 j ∧ t = .int .u32 (part dl ((s.size - 1) - 9 * k - 9) j : Nat)) (fun _ i => (s.size - 1) - 9 * k - (intOf i).toNat)
        case atStart => exact ⟨(s.size - 1) - 9 * k - 9, Nat.le_refl _, by omega, val_int (by omega), by rw [part_self]; rfl⟩
        case round =>
          obtain ⟨j, hj1, hj2, rfl, rfl⟩ := hrel
          by_cases hjl : j < (s.size - 1) - 9 * k
          · have hjD : j < (s.extract 1 s.size).size := by rw [Lib.size_eq, HDL.out, HZ.out]; omega
            have hjZ : j < (s.size - 1) := by omega
            have hpb := part_lt8 dl HG.out ((s.size - 1) - 9 * k - 9) j (by omega)
            have hcd := dig_at (s.extract 1 s.size) (by rw [HDL.out]; exact HG.out) j hjD
            have HS : Hid (part dl ((s.size - 1) - 9 * k - 9) (j + 1) = part dl ((s.size - 1) - 9 * k - 9) j * 10 + ((s.extract 1 s.size)[j].toNat - 48)) := part_succ' (s.extract 1 s.size) dl HDL.out ((s.size - 1) - 9 * k - 9) j hj1 hjD
            go_wp2
            go_round
            case rel => exact ⟨j + 1, by omega, by omega, by go_num, by rw [HS.out]; exact val_int (by omega)⟩
            case measure => simp [intOf]; omega
          · have hje : j = (s.size - 1) - 9 * k := by omega
            have HCH : Hid (part dl ((s.size - 1) - 9 * k - 9) j = chunk dl k) := by
              show part dl ((s.size - 1) - 9 * k - 9) j = chunk dl k
              rw [hje]; unfold part chunk; rw [HZ.out]
            have hch := chunk_lt dl k HG.out
            rw [HCH.out]
            clear hje HCH
            go_wp2_with (at_builtin; refine wpList_append_own _ rfl _ _ 26 rfl (w.heap.size + 1) 51 i0 (.int .u32 0) 1 4 Tryd.underlying26 hinf hz0 hz1 hz2 rfl (by decide) _ _ _ rfl (hown.alloc _) ⟨wr.heap.size, 0, none⟩ 1 1 [.int .u32 (chunk dl k : Nat)] rfl rfl (cell_one_new _ _ _) ?nac2 ?nac3 ?nac4 ?nac5 ?_)
            case nac2 => first | rfl | (intro u hu; simp at hu; subst hu; rfl)
            case nac3 => unfold maxLen; omega
            case nac4 => omega
            case nac5 => have := hB.size; have := HSZ.out; simp; omega
            intro v' w1 hown' hgrow' _
            have hB' : Below (w.heap.size + 1) W0 w1 := (hB.alloc (by have := hB.size; have := HSZ.out; omega) _).grown hgrow' (by have := hB.size; have := HSZ.out; simp; omega) (fun q hq => (hown.lt q hq).1)
            clear hgrow' hown hB
            go_wp2
            go_roundw
            case rel => exact ⟨k + 1, by omega, val_int (by omega), by rw [List.range_succ, List.map_append]; exact hown', hB'⟩
            case measure => simp [intOf]; omega
      ·
        go_wp2_with fail
        go_loop [7, 8] (fun t i => ∃ j : Nat, 0 ≤ j ∧ j ≤ (s.size - 1) - 9 * k ∧ i = .int .i64 j ∧ t = .int .u32 (part dl (0) j : Nat)) (fun _ i => (s.size - 1) - 9 * k - (intOf i).toNat)
        case atStart => exact ⟨0, Nat.le_refl _, by omega, val_int (by omega), by rw [part_self]; rfl⟩
        case round =>
          obtain ⟨j, hj1, hj2, rfl, rfl⟩ := hrel
          by_cases hjl : j < (s.size - 1) - 9 * k
          · have hjD : j < (s.extract 1 s.size).size := by rw [Lib.size_eq, HDL.out, HZ.out]; omega
            have hjZ : j < (s.size - 1) := by omega
            have hpb := part_lt8 dl HG.out (0) j (by omega)
            have hcd := dig_at (s.extract 1 s.size) (by rw [HDL.out]; exact HG.out) j hjD
            have HS : Hid (part dl (0) (j + 1) = part dl (0) j * 10 + ((s.extract 1 s.size)[j].toNat - 48)) := part_succ' (s.extract 1 s.size) dl HDL.out (0) j hj1 hjD
            go_wp2
            go_round
            case rel => exact ⟨j + 1, by omega, by omega, by go_num, by rw [HS.out]; exact val_int (by omega)⟩
            case measure => simp [intOf]; omega
          · have hje : j = (s.size - 1) - 9 * k := by omega
            have HCH : Hid (part dl (0) j = chunk dl k) := by
              show part dl (0) j = chunk dl k
              rw [hje]; unfold part chunk; rw [HZ.out]; rw [show (s.size - 1) - 9 * k - 9 = 0 by omega]
            have hch := chunk_lt dl k HG.out
            rw [HCH.out]
            clear hje HCH
            go_wp2_with (at_builtin; refine wpList_append_own _ rfl _ _ 26 rfl (w.heap.size + 1) 51 i0 (.int .u32 0) 1 4 Tryd.underlying26 hinf hz0 hz1 hz2 rfl (by decide) _ _ _ rfl (hown.alloc _) ⟨wr.heap.size, 0, none⟩ 1 1 [.int .u32 (chunk dl k : Nat)] rfl rfl (cell_one_new _ _ _) ?nbc2 ?nbc3 ?nbc4 ?nbc5 ?_)
            case nbc2 => first | rfl | (intro u hu; simp at hu; subst hu; rfl)
            case nbc3 => unfold maxLen; omega
            case nbc4 => omega
            case nbc5 => have := hB.size; have := HSZ.out; simp; omega
            intro v' w1 hown' hgrow' _
            have hB' : Below (w.heap.size + 1) W0 w1 := (hB.alloc (by have := hB.size; have := HSZ.out; omega) _).grown hgrow' (by have := hB.size; have := HSZ.out; simp; omega) (fun q hq => (hown.lt q hq).1)
            clear hgrow' hown hB
            go_wp2
            go_roundw
            case rel => exact ⟨k + 1, by omega, val_int (by omega), by rw [List.range_succ, List.map_append]; exact hown', hB'⟩
            case measure => simp [intOf]; omega
    · have hkc : k = cnt ((s.size - 1)) := by unfold cnt; omega
      have hL : IsL (w.heap.size + 1) wr u4 (chunks dl) := by
        unfold chunks
        rw [HZ.out, ← hkc]
        refine isL_of_owns (e := 51) ?_ (fun x hx => ?_)
        · simpa [Function.comp_def] using hown
        · rw [List.mem_map] at hx
          obtain ⟨i, _, rfl⟩ := hx
          exact chunk_lt dl i HG.out
      have HL : Hid (IsL (w.heap.size + 1) wr u4 (chunks dl)) := hL
      clear hL hown hkc
      go_wp2_with fail
      refine (l1Make_any _ _ _ _ _ HL.out).mono ?_
      rintro e w1 ⟨z, rfl, hcut, hb1⟩
      have hZ := (hcut _ _ HL.out).below hb1
      have hB1 : Below (w.heap.size + 1) W0 w1 := hB.trans (hb1.mono (by have := hB.size; have := HSZ.out; omega))
      have hc0 : w1.cell? ⟨w.heap.size, 0, none⟩ = some (.int .i64 0) := by
        rw [hB1.cell (p := ⟨w.heap.size, 0, none⟩) (Nat.lt_succ_self _), ← HW0.out, World.cell?_alloc_at _ _ _ _ rfl]; rfl
      have hc1 : w1.cell? ⟨w.heap.size, 1, none⟩ = some (.bool false) := by
        rw [hB1.cell (p := ⟨w.heap.size, 1, none⟩) (Nat.lt_succ_self _), ← HW0.out, World.cell?_alloc_at _ _ _ _ rfl]; rfl
      have hc2 : w1.cell? ⟨w.heap.size, 2, none⟩ = some (.slice none 0 0) := by
        rw [hB1.cell (p := ⟨w.heap.size, 2, none⟩) (Nat.lt_succ_self _), ← HW0.out, World.cell?_alloc_at _ _ _ _ rfl]; rfl
      have hf0 : w1.frozen? ⟨w.heap.size, 0, none⟩ = false := by
        rw [hB1.frozen (p := ⟨w.heap.size, 0, none⟩) (Nat.lt_succ_self _), ← HW0.out, World.frozen?_alloc_at _ _ _ _ rfl]
      have hf1 : w1.frozen? ⟨w.heap.size, 1, none⟩ = false := by
        rw [hB1.frozen (p := ⟨w.heap.size, 1, none⟩) (Nat.lt_succ_self _), ← HW0.out, World.frozen?_alloc_at _ _ _ _ rfl]
      have hf2 : w1.frozen? ⟨w.heap.size, 2, none⟩ = false := by
        rw [hB1.frozen (p := ⟨w.heap.size, 2, none⟩) (Nat.lt_succ_self _), ← HW0.out, World.frozen?_alloc_at _ _ _ _ rfl]
      have hlast : Below w.heap.size w w1 := by
        have h0 := below_alloc w (.cells #[.int .i64 0, .bool false, .slice none 0 0] 28)
        rw [HW0.out] at h0
        exact h0.trans (hB1.mono (Nat.le_succ _))
      have HB : Hid (Below w.heap.size w w1) := hlast
      have HZZ : Hid (IsZ (w.heap.size + 1) w1 z true (trimL (chunks dl))) := hZ
      obtain ⟨z0, zn, za, zl, zc, hzz⟩ := hZ.shape
      subst hzz
      clear hcut hb1 hB1 hB hlast hZ
      go_wp2
      refine bodyPost_ret ?_ rfl ⟨_, rfl, (((HZZ.out.setCell _ _ (Nat.lt_succ_self _)).setCell _ _ (Nat.lt_succ_self _)).setCell _ _ (Nat.lt_succ_self _)).mono (Nat.le_succ _), ((HB.out.setCell (Nat.le_refl _) _).setCell (Nat.le_refl _) _).setCell (Nat.le_refl _) _⟩
      simp [results, Tryd.results12, go_sem, hc0, hc1, hc2]
theorem l1Read_any (s : ByteArray) (w : World) (hi : isIntB s = true) :
    Calls Tryd.prog 12 #[.string s] w fun e w' => ∃ z, e = .returned z ∧ IsZ w.heap.size w' z (isNeg s) (trimL (chunks (dgs s).data.toList)) ∧ Below w.heap.size w w' := by
  cases hn : isNeg s
  · rw [dgs_pos s hn]; exact l1Read_pos s w hi hn
  · rw [dgs_neg s hn]; exact l1Read_neg s w hi hn
end Go.Proofs.YtpjnglcojamfmaaDoor
