import Derived.Test.YtebldkelihmihaaGreatDoorPlusGH
import Derived.Test.YtebldkelihmihaaGreatDoorOfImpl
namespace Go.Proofs.YtebldkelihmihaaGreatDoor
open Go.ChangeShapes Go.WideShapes Go.ChangeAt Go.RowKit
theorem IsI.below {B : Nat} {w w' : World} {z : Value} {x : Int} {n : Nat} (h : IsI B w z x n) (hb : Below w.heap.size w w') : IsI B w' z x n := by
  obtain ⟨neg, v, t, h1, h2, h3⟩ := h
  exact ⟨neg, v, t, h1, h2.below hb, h3⟩
theorem IsI.mono {B B' : Nat} {w : World} {z : Value} {x : Int} {n n' : Nat} (h : IsI B w z x n) (hb : B' ≤ B) (hn : n ≤ n') : IsI B' w z x n' := by
  obtain ⟨neg, v, t, h1, h2, h3, h4, h5⟩ := h
  exact ⟨neg, v, t, h1, h2.mono hb, h3, h4, by omega⟩
theorem negOf_ne (n : Bool) (t : List Nat) (h : negOf n t = true) : t ≠ [] := by
  rintro rfl
  cases n <;> simp [negOf] at h
theorem plus_any (B : Nat) (za zb : Value) (x y : Int) (n m : Nat) (w : World) (ha : IsI B w za x n) (hb : IsI B w zb y m) (hn : n ≤ 100000) (hm : m ≤ 100000) (hSP : SP w) :
    Calls Tryz.prog 80 #[za, zb] w fun e w' => ∃ z, e = .returned z ∧ IsI w.heap.size w' z (x + y) (n + m + 1) ∧ Below w.heap.size w w' := by
  obtain ⟨na, va, a, rfl, hva, ta, rfl, hla⟩ := ha
  obtain ⟨nb, vb, b, rfl, hvb, tb, rfl, hlb⟩ := hb
  have oka : okL a := by obtain ⟨_, _, _, _, _, h, _⟩ := hva; exact h
  have okb : okL b := by obtain ⟨_, _, _, _, _, h, _⟩ := hvb; exact h
  rw [← sg_negOf na a, ← sg_negOf nb b]
  have fin : ∀ {z : Value} {W : World} {u : Int}, IsI w.heap.size W z u (a.length + b.length + 1) → IsI w.heap.size W z u (n + m + 1) := fun h => h.mono (Nat.le_refl _) (by omega)
  by_cases hs : negOf na a = negOf nb b
  · rw [← hs]
    refine (plus_same B _ va vb a b w hva hvb (by omega) (by omega) hSP).mono ?_
    rintro e w' ⟨z, h1, h2, h3⟩
    exact ⟨z, h1, fin h2, h3⟩
  · have hss : negOf nb b = !negOf na a := by cases h1 : negOf na a <;> cases h2 : negOf nb b <;> simp_all
    have hne : a ≠ [] ∨ b ≠ [] := by
      cases h1 : negOf na a
      · exact .inr (negOf_ne nb b (by rw [hss, h1]; rfl))
      · exact .inl (negOf_ne na a h1)
    by_cases hc : 0 ≤ cmpL a b
    · have hge := cmpL_ge a b oka okb ta tb hc
      refine (plus_ge B _ _ va vb a b w hva hvb ?_ hge (by omega) hSP hss hc).mono ?_
      · intro h
        rcases hne with h' | h'
        · exact h' h
        · rw [h] at hge
          exact h' (List.eq_nil_of_length_eq_zero (by simpa using hge.1))
      rintro e w' ⟨z, h1, h2, h3⟩
      exact ⟨z, h1, fin h2, h3⟩
    · have hlt := cmpL_lt' a b oka okb ta tb (by omega)
      refine (plus_lt B _ _ va vb a b w hva hvb ?_ hlt (by omega) hSP hss (by omega)).mono ?_
      · intro h
        rcases hne with h' | h'
        · rw [h] at hlt
          exact h' (List.eq_nil_of_length_eq_zero (by simpa using hlt.1))
        · exact h' h
      rintro e w' ⟨z, h1, h2, h3⟩
      exact ⟨z, h1, fin h2, h3⟩
set_option maxRecDepth 100000 in
set_option maxHeartbeats 1000000 in
theorem negated_any (B : Nat) (z : Value) (x : Int) (n : Nat) (w : World) (h : IsI B w z x n) :
    Calls Tryz.prog 81 #[z] w fun e w' => ∃ z', e = .returned z' ∧ IsI B w' z' (-x) n ∧ Below w.heap.size w w' := by
  obtain ⟨neg, v, t, rfl, hv, ht, hx, hl⟩ := h
  obtain ⟨p, c, rfl, _⟩ := id hv
  obtain ⟨s, hs⟩ : ∃ s, negOf neg t = s := ⟨_, rfl⟩
  have HX : Hid (sg (!s) (val t) = -x) := by
    show sg (!s) (val t) = -x
    rw [← hs, sg_not, sg_negOf, hx]
  have HV : Hid (∀ W, Below w.heap.size w W → IsL B W (.slice p t.length c) t) := fun W hW => hv.below hW
  have HT : Hid (isTrim t ∧ t.length ≤ n) := ⟨ht, hl⟩
  obtain ⟨W1, hW1⟩ : ∃ W1, (w.alloc (.cells #[.bool s, .slice p t.length c] 82)).alloc (.cells #[.bool false, .slice none 0 0] 82) = W1 := ⟨_, rfl⟩
  have HW1 := hide hW1
  have HB1 : Hid (Below w.heap.size w W1) := by rw [← hW1]; exact below_al (below_alloc _ _) _
  have hsz : W1.heap.size = w.heap.size + 2 := by rw [← hW1]; simp
  have HR : Hid (∀ W, Below W1.heap.size W1 W → (W.cell? ⟨w.heap.size + 1, 0, none⟩ = some (.bool false) ∧ W.cell? ⟨w.heap.size + 1, 1, none⟩ = some (.slice none 0 0) ∧ W.frozen? ⟨w.heap.size + 1, 0, none⟩ = false ∧ W.frozen? ⟨w.heap.size + 1, 1, none⟩ = false) ∧ W.cell? ⟨w.heap.size, 0, none⟩ = some (.bool s) ∧ W.cell? ⟨w.heap.size, 1, none⟩ = some (.slice p t.length c)) := fun W hW => by
    have q : ∀ k, k < 2 → ∀ i, W.cell? ⟨w.heap.size + k, i, none⟩ = W1.cell? ⟨w.heap.size + k, i, none⟩ := fun k hk i => hW.cell (p := ⟨w.heap.size + k, i, none⟩) (by show w.heap.size + k < W1.heap.size; omega)
    have f : ∀ i, W.frozen? ⟨w.heap.size + 1, i, none⟩ = W1.frozen? ⟨w.heap.size + 1, i, none⟩ := fun i => hW.frozen (p := ⟨w.heap.size + 1, i, none⟩) (by show w.heap.size + 1 < W1.heap.size; omega)
    refine ⟨⟨?_, ?_, ?_, ?_⟩, ?_, ?_⟩
    · rw [q 1 (by omega), ← hW1, World.cell?_alloc_at _ _ _ _ (by simp)]; rfl
    · rw [q 1 (by omega), ← hW1, World.cell?_alloc_at _ _ _ _ (by simp)]; rfl
    · rw [f, ← hW1, World.frozen?_alloc_at _ _ _ _ (by simp)]
    · rw [f, ← hW1, World.frozen?_alloc_at _ _ _ _ (by simp)]
    · refine (q 0 (by omega) 0).trans ?_
      rw [← hW1, World.cell?_alloc_past _ _ _ (by simp), World.cell?_alloc_at _ _ _ _ (by simp)]; rfl
    · refine (q 0 (by omega) 1).trans ?_
      rw [← hW1, World.cell?_alloc_past _ _ _ (by simp), World.cell?_alloc_at _ _ _ _ (by simp)]; rfl
  have HS1 : Hid (W1.heap.size = w.heap.size + 2) := hsz
  rw [hs]
  clear hs hx ht hl hv hW1 hsz
  go_enter Tryz.func81, Tryz.ntmps81
  go_wp2_with fail
  rw [HW1.out]
  refine (makeInteger_any B _ _ t _ (HV.out _ HB1.out)).mono ?_
  rintro e w2 ⟨v', rfl, hcut, hb2⟩
  have HB2 : Hid (Below w.heap.size w w2) := HB1.out.trans (hb2.mono HB1.out.size)
  have HV2 : Hid (∀ W, Below w.heap.size w W → IsL B W v' (trimL t)) := fun W hW => hcut _ _ (HV.out _ hW)
  obtain ⟨⟨r0, r1, f0, f1⟩, _, _⟩ := HR.out w2 hb2
  obtain ⟨pw, cw, hw, _⟩ := HV2.out _ HB2.out
  subst hw
  clear hcut hb2
  go_wp2
  have hF : Below w.heap.size w ((w2.setCell ⟨w.heap.size + 1, 0, none⟩ (.bool (negOf (!s) (trimL t)))).setCell ⟨w.heap.size + 1, 1, none⟩ (.slice pw (trimL t).length cw)) := (HB2.out.setCell (by simp) _).setCell (by simp) _
  refine bodyPost_ret ?_ rfl ⟨_, rfl, ⟨!s, _, trimL t, rfl, HV2.out _ hF, trimL_trim _, by rw [val_trimL]; exact HX.out, by have := trimL_len t; have := HT.out.2; omega⟩, hF⟩
  simp [results, Tryz.results81, go_sem, r0, r1]
theorem IsI.shape {B : Nat} {w : World} {z : Value} {x : Int} {n : Nat} (h : IsI B w z x n) : ∃ (s : Bool) (p : Option Addr) (l c : Nat), z = .agg #[.bool s, .slice p l c] := by
  obtain ⟨neg, v, t, rfl, ⟨p, c, rfl, _⟩, _⟩ := h
  exact ⟨_, _, _, _, rfl⟩
theorem IsI.setCell {B : Nat} {w : World} {z : Value} {x : Int} {n : Nat} (h : IsI B w z x n) (p : Addr) (u : Value) (hp : p.block < B) : IsI B (w.setCell p u) z x n := by
  obtain ⟨neg, v, t, h1, h2, h3⟩ := h
  exact ⟨neg, v, t, h1, h2.setCell p u hp, h3⟩
set_option maxRecDepth 100000 in
set_option maxHeartbeats 1000000 in
theorem minus_any (B : Nat) (za zb : Value) (x y : Int) (n m : Nat) (w : World) (ha : IsI B w za x n) (hb : IsI B w zb y m) (hn : n ≤ 100000) (hm : m ≤ 100000) (hSP : SP w) :
    Calls Tryz.prog 50 #[za, zb] w fun e w' => ∃ z, e = .returned z ∧ IsI w.heap.size w' z (x - y) (n + m + 1) ∧ Below w.heap.size w w' := by
  have HA : Hid (∀ W, Below w.heap.size w W → IsI B W za x n) := fun W hW => ha.below hW
  have HB : Hid (∀ W, Below w.heap.size w W → IsI B W zb y m) := fun W hW => hb.below hW
  have HSP : Hid (∀ W, Below w.heap.size w W → SP W) := fun W hW => hSP.below hW
  have HN : Hid (n ≤ 100000 ∧ m ≤ 100000) := ⟨hn, hm⟩
  obtain ⟨sa, pa, la, ca, rfl⟩ := ha.shape
  obtain ⟨sb, pb, lb, cb, rfl⟩ := hb.shape
  clear ha hb hSP hn hm
  have HX := boxI_first w sa pa la ca sb pb lb cb 82
  obtain ⟨W0, hW0⟩ : ∃ W0, (((w.alloc (.cells #[.bool sa, .slice pa la ca] 82)).alloc (.cells #[.bool sb, .slice pb lb cb] 82)).alloc (.cells #[.bool false, .slice none 0 0] 82)) = W0 := ⟨_, rfl⟩
  have HW0 := hide hW0
  have hB0 : Below w.heap.size w W0 := by rw [← hW0]; exact below_al (below_al (below_alloc _ _) _) _
  have HB0 := hide hB0
  have hsz : W0.heap.size = w.heap.size + 3 := by rw [← hW0]; simp
  rw [hW0] at HX
  have HS := hide hsz
  have HBX : Hid (∀ W, Below W0.heap.size W0 W → BoxI w.heap.size W sa pa la ca sb pb lb cb) := fun W hW => HX.below (by omega) hW
  have HF : Hid (∀ W, Below W0.heap.size W0 W → Below w.heap.size w W) := fun W hW => hB0.trans (hW.mono (by omega))
  obtain ⟨a0, a1, b0, b1, r0, r1, f⟩ := HX
  have f0 := f 2 (by omega) 0
  have f1 := f 2 (by omega) 1
  clear f hW0 hsz hB0
  go_enter Tryz.func50, Tryz.ntmps50
  go_wp2_with fail
  rw [HW0.out]
  go_region_with (first
    | (go_at_call 81; refine (negated_any B _ y m _ (HB.out _ (HF.out _ ?_))).mono ?_
       · exact (Below.refl _ W0).drew
       rintro e wd ⟨z, rfl, hz, hbd⟩
       have HBD : Hid (Below W0.heap.size W0 wd) := (Below.refl _ W0).drew.trans (hbd.mono (Nat.le_refl _))
       have HZ : Hid (IsI B wd z (-y) m) := hz
       obtain ⟨c0, c1, d0, d1, s0, s1, g⟩ := HBX.out wd HBD.out
       have g0 := g 2 (by omega) 0
       have g1 := g 2 (by omega) 1
       obtain ⟨sz, pz, lz, cz, hv⟩ := hz.shape
       subst hv
       clear hz hbd g)
    | (go_at_call 80; refine (plus_any B _ _ x (-y) n m _ (HA.out _ (HF.out _ HBD.out)) HZ.out HN.out.1 HN.out.2 (HSP.out _ (HF.out _ HBD.out))).mono ?_
       rintro e we ⟨z', rfl, hz', hbe⟩
       have HBE : Hid (Below W0.heap.size W0 we) := HBD.out.trans (hbe.mono HBD.out.size)
       have HZE : Hid (IsI (w.heap.size + 3) we z' (x - y) (n + m + 1)) := by
         rw [Int.sub_eq_add_neg]
         exact hz'.mono (by have := HBD.out.size; have := HS.out; omega) (Nat.le_refl _)
       obtain ⟨c0, c1, d0, d1, s0, s1, g⟩ := HBX.out we HBE.out
       have g0 := g 2 (by omega) 0
       have g1 := g 2 (by omega) 1
       obtain ⟨se, pe, le, ce, hw⟩ := hz'.shape
       subst hw
       clear hz' hbe g))
  all_goals
    try simp only [List.getElem_toArray, List.getElem_cons_succ, List.getElem_cons_zero, Act.put, List.setIfInBounds_toArray, List.set_cons_succ, List.set_cons_zero]
    go_wp2
    have HFE : Hid (Below w.heap.size w we) := HF.out _ HBE.out
    refine bodyPost_ret ?_ rfl ⟨_, rfl, ((HZE.out.setCell _ _ (by simp)).setCell _ _ (by simp)).mono (by omega) (Nat.le_refl _), (HFE.out.setCell (by simp; omega) _).setCell (by simp; omega) _⟩
    simp [results, Tryz.results50, go_sem, s0, s1]
theorem lim_len' (s : ByteArray) (h : isIntB s = true) : (lim s).length ≤ 280 := by
  have h1 : (dgs s).size ≤ 2500 := by
    by_cases h2 : 2500 < (dgs s).size
    · rw [isInt_long s _ rfl h2] at h; cases h
    · omega
  have h3 := trimL_len (chunks (dgs s).data.toList)
  have h4 : (chunks (dgs s).data.toList).length = cnt (dgs s).data.toList.length := by simp [chunks]
  have h5 : (dgs s).data.toList.length = (dgs s).size := by simp
  unfold lim
  rw [h4, h5] at h3
  have h6 : cnt (dgs s).size ≤ 280 := by unfold cnt; omega
  omega
theorem textI_any (B : Nat) (z : Value) (x : Int) (n : Nat) (w : World) (h : IsI B w z x n) (hn : n ≤ 600) (hLT : LT w) :
    Calls Tryz.prog 76 #[z] w fun e w' => ∃ u, e = .returned (.string u) ∧ IsText x u ∧ Below w.heap.size w w' := by
  obtain ⟨neg, v, t, rfl, hv, ht, hx, hl⟩ := h
  have hok : okL t := by obtain ⟨_, _, _, _, _, h, _⟩ := hv; exact h
  refine (text_any B _ v t w hv (by omega) hLT).mono ?_
  rintro e w' ⟨rfl, hb⟩
  exact ⟨_, rfl, ⟨neg, t, hok, ht, hx, rfl⟩, hb⟩
end Go.Proofs.YtebldkelihmihaaGreatDoor
