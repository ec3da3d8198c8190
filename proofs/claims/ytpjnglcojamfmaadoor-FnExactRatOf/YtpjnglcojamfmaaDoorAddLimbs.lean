import Derived.Test.YtpjnglcojamfmaaDoorM4
import Derived.Test.YtpjnglcojamfmaaDoorOfImpl
import Derived.Laws.CopyOwn
namespace Go.Proofs.YtpjnglcojamfmaaDoor
open Go.ChangeShapes Go.WideShapes Go.ChangeAt Go.RowKit
theorem copy_row (w w1 : World) (R n : Nat) (pa : Option Addr) (ca : Nat) (a : List Nat) (hn : a.length ≤ n) (hR : Row w1 R (List.replicate n 0)) (hRw : w.heap.size ≤ R) (hB1 : Below w.heap.size w w1)
    (hA : ∀ i, i < a.length → ∃ b off, pa = some ⟨b, off, none⟩ ∧ b < w.heap.size ∧ w.cell? ⟨b, off + i, none⟩ = some (.int .u32 (a.getD i 0 : Nat))) :
    ∃ w2, (∀ ty, (Builtin.copy_ #[26, 26] ty #[.slice (some ⟨R, 0, none⟩) n n, .slice pa a.length ca]).run Tryd.prog w1 = .ok (goInt a.length) w2) ∧ Row w2 R (a ++ List.replicate (n - a.length) 0) ∧ Below w.heap.size w w2 := by
  have hu := Tryd.underlying26
  have hs : (Tryd.prog.info? 51).map (·.size) = some 1 := by
    obtain ⟨i0, hinf, hz0, hz1, hz2⟩ := info_parts Tryd.info_u32
    rw [hinf]; simp [hz1]
  by_cases h0 : a.length = 0
  · have e : a = [] := List.eq_nil_of_length_eq_zero h0
    refine ⟨w1, fun ty => ?_, ?_, hB1⟩
    · rw [h0]
      exact Go.run_copy_none w1 _ _ ty _ _ pa n n 0 ca hu hs (by simp)
    · subst e; simpa using hR
  · obtain ⟨b, off, rfl, hb, _⟩ := hA 0 (by omega)
    refine ⟨w1.setRow R (U32s (a ++ List.replicate (n - a.length) 0)).toArray, fun ty => ?_, setRow_heap w1 R _ _ _ _ hR, below_setRow hB1 hRw _⟩
    have h := Go.run_copy_row (P := Tryd.prog) w1 26 26 ty 51 R 0 n n ⟨b, off, none⟩ a.length ca _ _ (U32s a) hu hs hR ?_ ?_ ?_ ?_
    · have e : (U32s (List.replicate n 0)).drop a.length = U32s (List.replicate (n - a.length) 0) := by simp [U32s]
      simp only [List.take_zero, List.nil_append, Nat.zero_add, List.length_map, e, ← List.map_append] at h
      exact h
    · simp [hn]
    · intro j v hj
      simp only [U32s, List.getElem?_map, Option.map_eq_some_iff] at hj
      obtain ⟨x, hx, rfl⟩ := hj
      obtain ⟨hlt, hx'⟩ := List.getElem?_eq_some_iff.1 hx
      obtain ⟨b', off', e, hb', hcl⟩ := hA j hlt
      simp only [Option.some.injEq, Addr.mk.injEq, and_true] at e
      obtain ⟨rfl, rfl⟩ := e
      rw [show (Addr.add ⟨b, off, none⟩ j) = ⟨b, off + j, none⟩ by simp [Addr.add], hB1.cell (p := ⟨b, off + j, none⟩) hb', hcl, List.getD_eq_getElem?_getD, hx]; rfl
    · simp; omega
    · intro v hv
      simp only [U32s, List.mem_map] at hv
      obtain ⟨x, _, rfl⟩ := hv
      rfl
set_option maxRecDepth 100000 in
set_option maxHeartbeats 2000000 in
theorem addLimbs_ge (B : Nat) (va vb : Value) (a b : List Nat) (w : World) (ha : IsL B w va a) (hb : IsL B w vb b) (hla : a.length ≤ 100000) (hlb : b.length ≤ a.length) :
    Calls Tryd.prog 54 #[va, vb] w fun e w' => ∃ v L, e = .returned v ∧ IsL w.heap.size w' v L ∧ val L = val a + val b ∧ L.length ≤ a.length + 1 ∧ isTrim L ∧ Below w.heap.size w w' := by
  obtain ⟨i0, hinf, hz0, hz1, hz2⟩ := info_parts Tryd.info_u32
  obtain ⟨pa, ca, rfl, _⟩ := id ha
  obtain ⟨pb, cb, rfl, _⟩ := id hb
  obtain ⟨_, _, _, haok, hca⟩ := ha.cells
  obtain ⟨_, _, _, hbok, hcb⟩ := hb.cells
  have HA : Hid (∀ i, i < a.length → ∃ b off, pa = some ⟨b, off, none⟩ ∧ b < w.heap.size ∧ w.cell? ⟨b, off + i, none⟩ = some (.int .u32 (a.getD i 0 : Nat))) := hca
  have HB : Hid (∀ i, i < b.length → ∃ c off, pb = some ⟨c, off, none⟩ ∧ c < w.heap.size ∧ w.cell? ⟨c, off + i, none⟩ = some (.int .u32 (b.getD i 0 : Nat))) := hcb
  clear hca hcb ha hb
  go_enter Tryd.func54, Tryd.ntmps54
  go_wp2_with (at_make; refine wpList_make_full _ rfl _ _ 26 rfl w.heap.size 51 i0 (.int .u32 0) 1 Tryd.underlying26 hinf hz0 hz1 .i64 .i64 _ _ (a.length + 1) rfl rfl ?m0 ?m1 ?m2 ?m3 ?m4 ?_)
  try (case m0 => first | rfl | omega)
  try (case m1 => first | rfl | omega)
  try (case m2 => (first | omega | (rw [hz2]; omega)))
  try (case m3 => (unfold maxLen; omega))
  try (case m4 => exact Nat.le_refl _)
  intro w1 hown hgr
  first | rw [made_zero] at hown | rw [made_zero'] at hown
  have hR : Row w1 w.heap.size (List.replicate (a.length + 1) 0) := row_of_full hown
  have hB1 : Below w.heap.size w w1 := (Below.refl _ _).grown hgr (Nat.le_refl _) (fun k h => by cases h)
  clear hown hgr
  obtain ⟨w2, hrun, hR2, hB2⟩ := copy_row w w1 w.heap.size (a.length + 1) pa ca a (by omega) hR (Nat.le_refl _) hB1 HA.out
  rw [show a.length + 1 - a.length = 1 by omega] at hR2
  have HR2 : Hid (Row w2 w.heap.size (a ++ List.replicate 1 0)) := hR2
  have HB2 : Hid (Below w.heap.size w w2) := hB2
  have hokA : okL (a ++ List.replicate 1 0) := fun x hx => by
    rcases List.mem_append.1 hx with h | h
    · exact haok x h
    · simp at h; omega
  clear hR hB1 hR2 hB2
  go_wp2_with fail
  refine (addInto_any w.heap.size a.length (a.length + 1) _ pb cb (a ++ List.replicate 1 0) b w2 HR2.out hokA (by simp) (by simp; omega) hlb hbok rfl (by omega) ?_).mono ?_
  · intro i hi
    obtain ⟨c, off, e, hc, hcl⟩ := HB.out i hi
    exact ⟨c, off, e, hc, by rw [HB2.out.cell (p := ⟨c, off + i, none⟩) hc]; exact hcl⟩
  rintro e w3 ⟨c, L, rfl, hR3, hL3, hok3, hdr, hc, hval, hb3⟩
  have hB3 : Below w.heap.size w w3 := HB2.out.trans hb3
  have hcell := hR3.cell a.length (by rw [hL3]; simp)
  have hfr := hR3.frozen a.length
  have HR4 : Hid (Row (w3.setCell ⟨w.heap.size, a.length, none⟩ (.int .u32 (c : Nat))) w.heap.size (L.set a.length c)) := hR3.set _ _
  have HB4 : Hid (Below w.heap.size w (w3.setCell ⟨w.heap.size, a.length, none⟩ (.int .u32 (c : Nat)))) := hB3.setCell (Nat.le_refl _) _
  have HL4 : Hid (okL (L.set a.length c) ∧ (L.set a.length c).length = a.length + 1 ∧ val (L.set a.length c) = val a + val b) := by
    have hl : L.length = a.length + 1 := by rw [hL3]; simp
    refine ⟨okL_set L hok3 _ _ (by omega), by simp [hl], ?_⟩
    have h1 := val_take_set L a.length c (by omega)
    rw [List.take_of_length_le (by simp [hl])] at h1
    rw [h1, hval]
    simp
  clear hR3 hL3 hok3 hdr hval hb3 hB3
  go_wp2_with fail
  obtain ⟨W4, hW4⟩ : ∃ W4, w3.setCell ⟨w.heap.size, a.length, none⟩ (.int .u32 (c : Nat)) = W4 := ⟨_, rfl⟩
  rw [hW4] at HR4 HB4 ⊢
  generalize L.set a.length c = N at HR4 HL4
  have hI : IsL w.heap.size W4 (.slice (some ⟨w.heap.size, 0, none⟩) (a.length + 1) (a.length + 1)) N := by
    have h := HR4.out.isL (B := w.heap.size) (cap := a.length + 1) (Nat.le_refl _) HL4.out.1 (by have := HL4.out.2.1; omega) (by unfold maxLen; omega)
    rw [HL4.out.2.1] at h
    exact h
  clear hW4 hcell hfr
  refine (trimLimbs_any w.heap.size _ N _ hI).mono ?_
  rintro e w5 ⟨v, rfl, hcut, rfl⟩
  have HV : Hid (IsL w.heap.size w5 v (trimL N)) := hcut _ _ hI
  have HT : Hid (val (trimL N) = val a + val b ∧ (trimL N).length ≤ a.length + 1 ∧ isTrim (trimL N)) := ⟨by rw [val_trimL]; exact HL4.out.2.2, by have := trimL_len N; have := HL4.out.2.1; omega, trimL_trim _⟩
  obtain ⟨pv, cv, hv, _⟩ := HV.out
  subst hv
  clear hcut hI
  go_wp2
  go_ret
  exact ⟨_, _, rfl, HV.out, HT.out.1, HT.out.2.1, HT.out.2.2, HB4.out⟩
set_option maxRecDepth 100000 in
set_option maxHeartbeats 2000000 in
theorem addLimbs_lt (B : Nat) (va vb : Value) (a b : List Nat) (w : World) (ha : IsL B w va a) (hb : IsL B w vb b) (hla : a.length ≤ 100000) (hlb : b.length < a.length) :
    Calls Tryd.prog 54 #[vb, va] w fun e w' => ∃ v L, e = .returned v ∧ IsL w.heap.size w' v L ∧ val L = val a + val b ∧ L.length ≤ a.length + 1 ∧ isTrim L ∧ Below w.heap.size w w' := by
  obtain ⟨i0, hinf, hz0, hz1, hz2⟩ := info_parts Tryd.info_u32
  obtain ⟨pa, ca, rfl, _⟩ := id ha
  obtain ⟨pb, cb, rfl, _⟩ := id hb
  obtain ⟨_, _, _, haok, hca⟩ := ha.cells
  obtain ⟨_, _, _, hbok, hcb⟩ := hb.cells
  have HA : Hid (∀ i, i < a.length → ∃ b off, pa = some ⟨b, off, none⟩ ∧ b < w.heap.size ∧ w.cell? ⟨b, off + i, none⟩ = some (.int .u32 (a.getD i 0 : Nat))) := hca
  have HB : Hid (∀ i, i < b.length → ∃ c off, pb = some ⟨c, off, none⟩ ∧ c < w.heap.size ∧ w.cell? ⟨c, off + i, none⟩ = some (.int .u32 (b.getD i 0 : Nat))) := hcb
  clear hca hcb ha hb
  go_enter Tryd.func54, Tryd.ntmps54
  go_wp2_with (at_make; refine wpList_make_full _ rfl _ _ 26 rfl w.heap.size 51 i0 (.int .u32 0) 1 Tryd.underlying26 hinf hz0 hz1 .i64 .i64 _ _ (a.length + 1) rfl rfl ?m0 ?m1 ?m2 ?m3 ?m4 ?_)
  try (case m0 => first | rfl | omega)
  try (case m1 => first | rfl | omega)
  try (case m2 => (first | omega | (rw [hz2]; omega)))
  try (case m3 => (unfold maxLen; omega))
  try (case m4 => exact Nat.le_refl _)
  intro w1 hown hgr
  first | rw [made_zero] at hown | rw [made_zero'] at hown
  have hR : Row w1 w.heap.size (List.replicate (a.length + 1) 0) := row_of_full hown
  have hB1 : Below w.heap.size w w1 := (Below.refl _ _).grown hgr (Nat.le_refl _) (fun k h => by cases h)
  clear hown hgr
  obtain ⟨w2, hrun, hR2, hB2⟩ := copy_row w w1 w.heap.size (a.length + 1) pa ca a (by omega) hR (Nat.le_refl _) hB1 HA.out
  rw [show a.length + 1 - a.length = 1 by omega] at hR2
  have HR2 : Hid (Row w2 w.heap.size (a ++ List.replicate 1 0)) := hR2
  have HB2 : Hid (Below w.heap.size w w2) := hB2
  have hokA : okL (a ++ List.replicate 1 0) := fun x hx => by
    rcases List.mem_append.1 hx with h | h
    · exact haok x h
    · simp at h; omega
  clear hR hB1 hR2 hB2
  go_wp2_with fail
  refine (addInto_any w.heap.size a.length (a.length + 1) _ pb cb (a ++ List.replicate 1 0) b w2 HR2.out hokA (by simp) (by simp; omega) (by omega) hbok rfl (by omega) ?_).mono ?_
  · intro i hi
    obtain ⟨c, off, e, hc, hcl⟩ := HB.out i hi
    exact ⟨c, off, e, hc, by rw [HB2.out.cell (p := ⟨c, off + i, none⟩) hc]; exact hcl⟩
  rintro e w3 ⟨c, L, rfl, hR3, hL3, hok3, hdr, hc, hval, hb3⟩
  have hB3 : Below w.heap.size w w3 := HB2.out.trans hb3
  have hcell := hR3.cell a.length (by rw [hL3]; simp)
  have hfr := hR3.frozen a.length
  have HR4 : Hid (Row (w3.setCell ⟨w.heap.size, a.length, none⟩ (.int .u32 (c : Nat))) w.heap.size (L.set a.length c)) := hR3.set _ _
  have HB4 : Hid (Below w.heap.size w (w3.setCell ⟨w.heap.size, a.length, none⟩ (.int .u32 (c : Nat)))) := hB3.setCell (Nat.le_refl _) _
  have HL4 : Hid (okL (L.set a.length c) ∧ (L.set a.length c).length = a.length + 1 ∧ val (L.set a.length c) = val a + val b) := by
    have hl : L.length = a.length + 1 := by rw [hL3]; simp
    refine ⟨okL_set L hok3 _ _ (by omega), by simp [hl], ?_⟩
    have h1 := val_take_set L a.length c (by omega)
    rw [List.take_of_length_le (by simp [hl])] at h1
    rw [h1, hval]
    simp
  clear hR3 hL3 hok3 hdr hval hb3 hB3
  go_wp2_with fail
  obtain ⟨W4, hW4⟩ : ∃ W4, w3.setCell ⟨w.heap.size, a.length, none⟩ (.int .u32 (c : Nat)) = W4 := ⟨_, rfl⟩
  rw [hW4] at HR4 HB4 ⊢
  generalize L.set a.length c = N at HR4 HL4
  have hI : IsL w.heap.size W4 (.slice (some ⟨w.heap.size, 0, none⟩) (a.length + 1) (a.length + 1)) N := by
    have h := HR4.out.isL (B := w.heap.size) (cap := a.length + 1) (Nat.le_refl _) HL4.out.1 (by have := HL4.out.2.1; omega) (by unfold maxLen; omega)
    rw [HL4.out.2.1] at h
    exact h
  clear hW4 hcell hfr
  refine (trimLimbs_any w.heap.size _ N _ hI).mono ?_
  rintro e w5 ⟨v, rfl, hcut, rfl⟩
  have HV : Hid (IsL w.heap.size w5 v (trimL N)) := hcut _ _ hI
  have HT : Hid (val (trimL N) = val a + val b ∧ (trimL N).length ≤ a.length + 1 ∧ isTrim (trimL N)) := ⟨by rw [val_trimL]; exact HL4.out.2.2, by have := trimL_len N; have := HL4.out.2.1; omega, trimL_trim _⟩
  obtain ⟨pv, cv, hv, _⟩ := HV.out
  subst hv
  clear hcut hI
  go_wp2
  go_ret
  exact ⟨_, _, rfl, HV.out, HT.out.1, HT.out.2.1, HT.out.2.2, HB4.out⟩
theorem addLimbs_any (B : Nat) (va vb : Value) (a b : List Nat) (w : World) (ha : IsL B w va a) (hb : IsL B w vb b) (hla : a.length ≤ 100000) (hlb : b.length ≤ 100000) :
    Calls Tryd.prog 54 #[va, vb] w fun e w' => ∃ v L, e = .returned v ∧ IsL w.heap.size w' v L ∧ val L = val a + val b ∧ (L.length ≤ a.length + 1 ∨ L.length ≤ b.length + 1) ∧ isTrim L ∧ Below w.heap.size w w' := by
  by_cases h : b.length ≤ a.length
  · refine (addLimbs_ge B va vb a b w ha hb hla h).mono ?_
    rintro e w' ⟨v, L, h1, h2, h3, h4, h5⟩
    exact ⟨v, L, h1, h2, h3, .inl h4, h5⟩
  · refine (addLimbs_lt B vb va b a w hb ha hlb (by omega)).mono ?_
    rintro e w' ⟨v, L, h1, h2, h3, h4, h5⟩
    exact ⟨v, L, h1, h2, by rw [h3, Nat.add_comm], .inr h4, h5⟩
end Go.Proofs.YtpjnglcojamfmaaDoor
