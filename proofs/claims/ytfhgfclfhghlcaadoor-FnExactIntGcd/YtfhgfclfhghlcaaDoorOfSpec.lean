import Derived.Test.YtfhgfclfhghlcaaDoorSpecTextFull
namespace Go.Proofs.YtfhgfclfhghlcaaDoor
open Go.ChangeShapes Go.WideShapes Go.ChangeAt Go.RowKit
theorem isL_three {w : World} {x y u : Int} (B e a b c g : Nat) (ha : a < 1000000000) (hb : b < 1000000000) (hcc : c < 1000000000) (hx : x = a) (hy : y = b) (hu : u = c) (hg : w.heap.size = g) (hB : B ≤ g) : IsL B (w.alloc (.cells #[.int .u32 x, .int .u32 y, .int .u32 u] e)) (.slice (some ⟨g, 0, none⟩) 3 3) [a, b, c] := by
  subst hx; subst hy; subst hu; subst hg
  exact ⟨_, 3, rfl, by simp, by unfold maxLen; omega, fun x hx => by simp at hx; omega, .inr ⟨w.heap.size, 0, rfl, hB, by simp, fun i hi => by
    match i, hi with
    | 0, _ => rw [World.cell?_alloc_at _ _ _ _ rfl]; rfl
    | 1, _ => rw [World.cell?_alloc_at _ _ _ _ rfl]; rfl
    | 2, _ => rw [World.cell?_alloc_at _ _ _ _ rfl]; rfl⟩⟩
set_option maxRecDepth 100000 in
set_option maxHeartbeats 1000000 in
theorem l1OfU_any (n : Nat) (w : World) (hn : n < 18446744073709551616) :
    Calls Tryd.prog 43 #[.int .u64 (n : Nat)] w fun e w' => ∃ z t, e = .returned z ∧ (IsZ w.heap.size w' z false t ∧ val t = n ∧ t.length ≤ 3) ∧ Below w.heap.size w w' := by
  obtain ⟨x, hx⟩ : ∃ x : Int, (n : Int) = x := ⟨_, rfl⟩
  have x0 : 0 ≤ x := by omega
  have x1 : x < 18446744073709551616 := by omega
  have HA : Hid (x % 1000000000 = (n % 1000000000 : Nat)) := by rw [← hx]; rfl
  have HB : Hid (x / 1000000000 % 1000000000 = (n / 1000000000 % 1000000000 : Nat)) := by rw [← hx]; rfl
  have HC : Hid (x / 1000000000 / 1000000000 = (n / 1000000000 / 1000000000 : Nat)) := by rw [← hx]; rfl
  have HN : Hid (n < 18446744073709551616) := hn
  rw [hx]
  clear hx hn
  go_enter Tryd.func43, Tryd.ntmps43
  go_wp2_with fail
  obtain ⟨t3, ht3⟩ : ∃ t3, [n % 1000000000, n / 1000000000 % 1000000000, n / 1000000000 / 1000000000] = t3 := ⟨_, rfl⟩
  have HVAL : Hid (val t3 = n ∧ t3.length = 3) := by
    rw [← ht3]
    refine ⟨?_, rfl⟩
    simp only [val]
    omega
  have hL : IsL (w.heap.size + 1) ((w.alloc (.cells #[.int .i64 0, .bool false, .slice none 0 0] 34)).alloc (.cells #[.int .u32 (x % 1000000000), .int .u32 (x / 1000000000 % 1000000000), .int .u32 (x / 1000000000 / 1000000000)] 60)) (.slice (some ⟨w.heap.size + 1, 0, none⟩) 3 3) t3 := by
    rw [← ht3]
    have := HN.out
    exact isL_three _ _ _ _ _ _ (by omega) (by omega) (by omega) HA.out HB.out HC.out (by simp) (Nat.le_refl _)
  clear ht3
  have hb1 : Below (w.heap.size + 1) (w.alloc (.cells #[.int .i64 0, .bool false, .slice none 0 0] 34)) ((w.alloc (.cells #[.int .i64 0, .bool false, .slice none 0 0] 34)).alloc (.cells #[.int .u32 (x % 1000000000), .int .u32 (x / 1000000000 % 1000000000), .int .u32 (x / 1000000000 / 1000000000)] 60)) := (Below.refl _ _).alloc (by simp) _
  obtain ⟨W0, hW0⟩ : ∃ W0, w.alloc (.cells #[.int .i64 0, .bool false, .slice none 0 0] 34) = W0 := ⟨_, rfl⟩
  have HW0 : Hid (w.alloc (.cells #[.int .i64 0, .bool false, .slice none 0 0] 34) = W0) := hW0
  rw [hW0] at hL hb1 ⊢
  obtain ⟨W1, hW1⟩ : ∃ W1, W0.alloc (.cells #[.int .u32 (x % 1000000000), .int .u32 (x / 1000000000 % 1000000000), .int .u32 (x / 1000000000 / 1000000000)] 60) = W1 := ⟨_, rfl⟩
  rw [hW1] at hL hb1 ⊢
  have hsz : W1.heap.size = w.heap.size + 2 := by rw [← hW1, ← hW0]; simp
  clear hW1 hW0
  refine (l1Make_any _ _ _ _ _ hL).mono ?_
  rintro e w1 ⟨z, rfl, hcut, hbm⟩
  have hZ := (hcut _ _ hL).below hbm
  have hB1 : Below (w.heap.size + 1) W0 w1 := hb1.trans (hbm.mono (by omega))
  have hc0 : w1.cell? ⟨w.heap.size, 0, none⟩ = some (.int .i64 0) := by
    rw [hB1.cell (p := ⟨w.heap.size, 0, none⟩) (Nat.lt_succ_self _), ← HW0.out, World.cell?_alloc_at _ _ _ _ rfl]; rfl
  have hc1 : w1.cell? ⟨w.heap.size, 1, none⟩ = some (.bool false) := by
    rw [hB1.cell (p := ⟨w.heap.size, 1, none⟩) (Nat.lt_succ_self _), ← HW0.out, World.cell?_alloc_at _ _ _ _ rfl]; rfl
  have hc2 : w1.cell? ⟨w.heap.size, 2, none⟩ = some (.slice none 0 0) := by
    rw [hB1.cell (p := ⟨w.heap.size, 2, none⟩) (Nat.lt_succ_self _), ← HW0.out, World.cell?_alloc_at _ _ _ _ rfl]; rfl
  have hf0 : w1.frozen? ⟨w.heap.size, 0, none⟩ = false := by
    rw [hB1.frozen (p := ⟨w.heap.size, 0, none⟩) (Nat.lt_succ_self _), ← HW0.out, World.frozen?_alloc_at _ _ _ _ rfl]
  have hf1 : w1.frozen? ⟨w.heap.size, 1, none⟩ = false := by
    rw [hB1.frozen (p := ⟨w.heap.size, 1, none⟩) (Nat.lt_succ_self _), ← HW0.out, World.frozen?_alloc_at _ _ _ _ rfl]
  have hf2 : w1.frozen? ⟨w.heap.size, 2, none⟩ = false := by
    rw [hB1.frozen (p := ⟨w.heap.size, 2, none⟩) (Nat.lt_succ_self _), ← HW0.out, World.frozen?_alloc_at _ _ _ _ rfl]
  have hlast : Below w.heap.size w w1 := by
    have h0 := below_alloc w (.cells #[.int .i64 0, .bool false, .slice none 0 0] 34)
    rw [HW0.out] at h0
    exact h0.trans (hB1.mono (Nat.le_succ _))
  have HBL : Hid (Below w.heap.size w w1) := hlast
  have HZZ : Hid (IsZ (w.heap.size + 1) w1 z false (trimL t3)) := hZ
  have HTL : Hid (val (trimL t3) = n ∧ (trimL t3).length ≤ 3) := ⟨by rw [val_trimL]; exact HVAL.out.1, by have := trimL_len t3; have := HVAL.out.2; omega⟩
  obtain ⟨z0, zn, za, zl, zc, hzz⟩ := hZ.shape
  subst hzz
  clear hcut hbm hB1 hlast hZ hL hb1 hsz
  go_wp2
  refine bodyPost_ret ?_ rfl ⟨_, trimL t3, rfl, ⟨(((HZZ.out.setCell _ _ (Nat.lt_succ_self _)).setCell _ _ (Nat.lt_succ_self _)).setCell _ _ (Nat.lt_succ_self _)).mono (Nat.le_succ _), HTL.out.1, HTL.out.2⟩, ((HBL.out.setCell (Nat.le_refl _) _).setCell (Nat.le_refl _) _).setCell (Nat.le_refl _) _⟩
  simp [results, Tryd.results43, go_sem, hc0, hc1, hc2]
set_option maxRecDepth 100000 in
set_option maxHeartbeats 1000000 in
theorem specOf_any (n : Nat) (w : World) (hn : n < 18446744073709551616) :
    Calls Tryd.prog 22 #[.int .u64 (n : Nat)] w fun e w' => ∃ t, (okL t ∧ isTrim t ∧ val t = n ∧ t.length ≤ 3) ∧ e = .returned (.string (fullT false t)) ∧ Below w.heap.size w w' := by
  go_enter Tryd.func22, Tryd.ntmps22
  go_wp2_with fail
  refine (l1OfU_any n _ hn).mono ?_
  rintro e w1 ⟨z, t, rfl, ⟨hz, hv, hl⟩, hb1⟩
  have HT : Hid (okL t ∧ isTrim t ∧ val t = n ∧ t.length ≤ 3) := ⟨hz.1, hz.2.1, hv, hl⟩
  have HZ : Hid (IsZ w.heap.size w1 z false t) := hz
  have HB1 : Hid (Below w.heap.size w w1) := hb1
  clear hz hv hb1 hn
  go_wp2_with fail
  refine (l1Text_any _ z _ _ _ HZ.out HB1.out.size (by omega)).mono ?_
  rintro e w2 ⟨rfl, hb2⟩
  have HB2 : Hid (Below w.heap.size w w2) := HB1.out.trans (hb2.mono HB1.out.size)
  clear hb2
  have e0 : negOf false t = false := rfl
  rw [e0]
  clear e0
  go_wp2
  go_ret
  exact ⟨t, HT.out, rfl, HB2.out⟩
theorem textD_len (t : List Nat) : (textD t).length ≤ 9 * t.length := by
  have h1 : (textD t).length ≤ (bytesOf (padN t)).length := by unfold textD dropZ; exact (List.dropWhile_suffix _).length_le
  rw [bytesOf, List.length_map, padN_length] at h1
  exact h1
/-- A word's text is one, whoever writes it. -/
theorem of_same (n : Nat) (t u : List Nat) (ht : okL t ∧ isTrim t ∧ val t = n ∧ t.length ≤ 3) (hu : okL u ∧ isTrim u ∧ val u = n ∧ u.length ≤ 3) : textT false t = fullT false u := by
  obtain rfl := val_inj t u ht.1 hu.1 ht.2.1 hu.2.1 (by rw [ht.2.2.1, hu.2.2.1])
  unfold textT fullT textS
  have := textD_len t
  have := ht.2.2.2
  rw [if_neg (show ¬ 2500 < (textD t).length by omega)]
end Go.Proofs.YtfhgfclfhghlcaaDoor
