import Derived.Test.YtpjnglcojamfmaaDoorRatA
import Derived.Test.YtpjnglcojamfmaaDoorDivTop
namespace Go.Proofs.YtpjnglcojamfmaaDoor
open Go.ChangeShapes Go.WideShapes Go.ChangeAt Go.RowKit
theorem IsI.put2 {B : Nat} {W : World} {z : Value} {x : Int} {n : Nat} (h : IsI B W z x n) {g : Nat} (no : NoInt W g) (u0 u1 : Value) : IsI B ((W.setCell ⟨g, 0, none⟩ u0).setCell ⟨g, 1, none⟩ u1) z x n := by
  obtain ⟨neg, v, t, e, h1, h2, h3, h4⟩ := h
  exact ⟨neg, v, t, e, h1.put2 no u0 u1, h2, h3, h4⟩
theorem IsL.put4 {B : Nat} {W : World} {v : Value} {l : List Nat} (h : IsL B W v l) {g : Nat} (n : NoInt W g) (u0 u1 u2 u3 : Value) : IsL B ((((W.setCell ⟨g, 0, none⟩ u0).setCell ⟨g, 1, none⟩ u1).setCell ⟨g, 2, none⟩ u2).setCell ⟨g, 3, none⟩ u3) v l :=
  h.keeps n n (Keeps.setCell (Keeps.setCell (Keeps.setCell (Keeps.setCell (Keeps.refl g g W) ⟨g, 0, none⟩ u0 (Or.inl rfl)) ⟨g, 1, none⟩ u1 (Or.inl rfl)) ⟨g, 2, none⟩ u2 (Or.inl rfl)) ⟨g, 3, none⟩ u3 (Or.inl rfl))
theorem IsI.put4 {B : Nat} {W : World} {z : Value} {x : Int} {n : Nat} (h : IsI B W z x n) {g : Nat} (no : NoInt W g) (u0 u1 u2 u3 : Value) : IsI B ((((W.setCell ⟨g, 0, none⟩ u0).setCell ⟨g, 1, none⟩ u1).setCell ⟨g, 2, none⟩ u2).setCell ⟨g, 3, none⟩ u3) z x n := by
  obtain ⟨neg, v, t, e, h1, h2, h3, h4⟩ := h
  exact ⟨neg, v, t, e, h1.put4 no u0 u1 u2 u3, h2, h3, h4⟩
theorem set4 {N : Nat} {w W : World} (h : Below N w W) (g : Nat) (hg : N ≤ g) (u0 u1 u2 u3 : Value) : Below N w ((((W.setCell ⟨g, 0, none⟩ u0).setCell ⟨g, 1, none⟩ u1).setCell ⟨g, 2, none⟩ u2).setCell ⟨g, 3, none⟩ u3) :=
  (set2 h g hg u0 u1).setCell (p := ⟨g, 2, none⟩) hg u2 |>.setCell (p := ⟨g, 3, none⟩) hg u3
theorem Bx.put2 {W : World} {g : Nat} {a b : Value} (h : Bx W g [a, b]) (u0 u1 : Value) : Bx ((W.setCell ⟨g, 0, none⟩ u0).setCell ⟨g, 1, none⟩ u1) g [u0, u1] := (h.set 0 u0).set 1 u1
theorem Bx.off2 {W : World} {g : Nat} {l : List Value} (h : Bx W g l) {k : Nat} (hk : k ≠ g) (u0 u1 : Value) : Bx ((W.setCell ⟨k, 0, none⟩ u0).setCell ⟨k, 1, none⟩ u1) g l := (h.other ⟨k, 0, none⟩ hk u0).other ⟨k, 1, none⟩ hk u1
/-- The boxes of makeRational. -/
structure BxM (h hc : Nat) (W : World) (s1 : Bool) (v1 : Value) (s2 : Bool) (v2 : Value) (s3 : Bool) (v3 : Value) : Prop where
  a : Bx W h [.bool s1, v1]
  b : Bx W (h + 1) [.bool s2, v2]
  r : Bx W (h + 1 + 1) [.bool false, .slice none 0 0, .bool false, .slice none 0 0]
  c : Bx W hc [.bool s3, v3]
theorem BxM.below {h hc N : Nat} {W W' : World} {s1 s2 s3 : Bool} {v1 v2 v3 : Value} (m : BxM h hc W s1 v1 s2 v2 s3 v3) (hN : h + 3 ≤ N) (hc' : hc < N) (hb : Below N W W') : BxM h hc W' s1 v1 s2 v2 s3 v3 :=
  ⟨m.a.below (by omega) hb, m.b.below (by omega) hb, m.r.below (by omega) hb, m.c.below hc' hb⟩
theorem BxM.cells {h hc : Nat} {W : World} {s1 s2 s3 : Bool} {v1 v2 v3 : Value} (m : BxM h hc W s1 v1 s2 v2 s3 v3) :
    (W.cell? ⟨h, 0, none⟩ = some (.bool s1) ∧ W.cell? ⟨h, 1, none⟩ = some v1 ∧ ∀ i, W.frozen? ⟨h, i, none⟩ = false) ∧ (W.cell? ⟨h + 1, 0, none⟩ = some (.bool s2) ∧ W.cell? ⟨h + 1, 1, none⟩ = some v2 ∧ ∀ i, W.frozen? ⟨h + 1, i, none⟩ = false) ∧
    (W.cell? ⟨hc, 0, none⟩ = some (.bool s3) ∧ W.cell? ⟨hc, 1, none⟩ = some v3 ∧ ∀ i, W.frozen? ⟨hc, i, none⟩ = false) :=
  ⟨⟨m.a.cell 0, m.a.cell 1, m.a.frozen⟩, ⟨m.b.cell 0, m.b.cell 1, m.b.frozen⟩, ⟨m.c.cell 0, m.c.cell 1, m.c.frozen⟩⟩
theorem noInt2 {W : World} {g : Nat} {s : Bool} {p : Option Addr} {l c : Nat} (h : Bx W g [.bool s, .slice p l c]) : NoInt W g := noInt_of h (by simp)
theorem neg_iff (neg : Bool) (t : List Nat) (y : Int) (ht : isTrim t) (h : sg neg (val t) = y) : negOf neg t = decide (y < 0) := by
  unfold negOf
  by_cases hl : t = []
  · subst hl
    have : y = 0 := by rw [← h]; cases neg <;> simp [sg, val]
    subst this
    simp
  · have h1 := val_pos t ht hl
    have h2 : 0 < t.length := List.length_pos_iff.2 hl
    cases neg
    · have : ¬ y < 0 := by rw [← h]; simp [sg]
      simp [this]
    · have : y < 0 := by rw [← h]; simp [sg]; omega
      simp [this, h2]
set_option maxRecDepth 100000 in
set_option maxHeartbeats 2000000 in
theorem makeRational_any (B : Nat) (za zb : Value) (x y : Int) (n : Nat) (w : World) (hBw : B ≤ w.heap.size) (ha : IsI B w za x n) (hb : IsI B w zb y n) (hy : y ≠ 0) (hn : n ≤ 80000) (hSP : SP w) (hNS : NS w) :
    Calls Tryd.prog 19 #[za, zb] w fun e w' => ∃ z p q, e = .returned z ∧ IsQR B w' z p q (n + 3) ∧ IsLow x y p q ∧ Below w.heap.size w w' := by
  obtain ⟨s1, p1, l1, c1, rfl⟩ := ha.shape
  obtain ⟨s2, p2, l2, c2, rfl⟩ := hb.shape
  have hs2 : s2 = decide (y < 0) := by
    obtain ⟨neg, t, e, _, ht, hv, _⟩ := hb.parts
    rw [e]; exact neg_iff neg t y ht hv
  have HS2 := hidG hs2
  clear hs2
  have HA := hidG ha
  have HB := hidG hb
  have HSP := hidG hSP
  have HNS := hidG hNS
  have HBW := hidG hBw
  have HC : Hid (∀ c, c = (if y < 0 then -gcdI x y else gcdI x y) → c ≠ 0) := fun c e => by
    have hg : 0 < Int.gcd x y := Int.gcd_pos_of_ne_zero_right _ hy
    rw [e]; unfold gcdI; split <;> omega
  have HLOW : Hid (∀ c q r d r', c = (if y < 0 then -gcdI x y else gcdI x y) → IsDiv x c q r → IsDiv y c d r' → IsLow x y q d) := fun c q r d r' e h1 h2 => low_of_div x y c q r d r' hy e h1 h2
  clear ha hb hSP hNS hBw
  obtain ⟨W0, hW0⟩ : ∃ W0, ((w.alloc (.cells #[.bool s1, .slice p1 l1 c1] 33)).alloc (.cells #[.bool s2, .slice p2 l2 c2] 33)).alloc (.cells #[.bool false, .slice none 0 0, .bool false, .slice none 0 0] 35) = W0 := ⟨_, rfl⟩
  have HW0 := hidG hW0
  have hs0 : W0.heap.size = w.heap.size + 3 := by rw [← hW0]; simp
  have HS0 := hidG hs0
  have HB0 : Hid (Below w.heap.size w W0) := by
    show Below w.heap.size w W0
    rw [← hW0]; exact below_al (below_al (below_alloc _ _) _) _
  have hx1 : Bx W0 w.heap.size [.bool s1, .slice p1 l1 c1] := by rw [← hW0]; exact ((bx_new w _ _).alloc _).alloc _
  have hx2 : Bx W0 (w.heap.size + 1) [.bool s2, .slice p2 l2 c2] := by
    rw [← hW0]
    have h := bx_new (w.alloc (.cells #[.bool s1, .slice p1 l1 c1] 33)) [.bool s2, .slice p2 l2 c2] 33
    rw [World.size_alloc] at h
    exact h.alloc _
  have hx3 : Bx W0 (w.heap.size + 1 + 1) [.bool false, .slice none 0 0, .bool false, .slice none 0 0] := by
    rw [← hW0]
    have h := bx_new ((w.alloc (.cells #[.bool s1, .slice p1 l1 c1] 33)).alloc (.cells #[.bool s2, .slice p2 l2 c2] 33)) [.bool false, .slice none 0 0, .bool false, .slice none 0 0] 35
    rw [World.size_alloc, World.size_alloc] at h
    exact h
  have HX : Hid (Bx W0 w.heap.size [.bool s1, .slice p1 l1 c1] ∧ Bx W0 (w.heap.size + 1) [.bool s2, .slice p2 l2 c2] ∧ Bx W0 (w.heap.size + 1 + 1) [.bool false, .slice none 0 0, .bool false, .slice none 0 0]) := ⟨hx1, hx2, hx3⟩
  clear hW0 hs0 hx1 hx2 hx3
  go_enter Tryd.func19, Tryd.ntmps19
  go_wp2_with fail
  rw [HW0.out]
  refine (commonDivisor_any B _ _ x y n _ (by have := HBW.out; have := HS0.out; omega) (HA.out.below HB0.out) (HB.out.below HB0.out) (by omega) (HNS.out.below HB0.out)).mono ?_
  rintro e w1 ⟨z, rfl, hz, hb1⟩
  obtain ⟨s3, p3, l3, c3, rfl⟩ := hz.shape
  obtain ⟨W1, hW1⟩ : ∃ W1, w1.alloc (.cells #[.bool s3, .slice p3 l3 c3] 33) = W1 := ⟨_, rfl⟩
  have HW1 := hidG hW1
  have hB1' : Below w1.heap.size w1 W1 := by rw [← hW1]; exact below_alloc _ _
  have hx4 : Bx W1 w1.heap.size [.bool s3, .slice p3 l3 c3] := by rw [← hW1]; exact bx_new w1 _ _
  have hB01 : Below W0.heap.size W0 W1 := hb1.trans (hB1'.mono hb1.size)
  have HM : Hid (BxM w.heap.size w1.heap.size W1 s1 (.slice p1 l1 c1) s2 (.slice p2 l2 c2) s3 (.slice p3 l3 c3)) := ⟨HX.out.1.below HX.out.1.lt hB01, HX.out.2.1.below HX.out.2.1.lt hB01, HX.out.2.2.below HX.out.2.2.lt hB01, hx4⟩
  have HZ : Hid (IsI B W1 (.agg #[.bool s3, .slice p3 l3 c3]) (gcdI x y) n) := hz.below hB1'
  have HB1 : Hid (Below w.heap.size w W1) := HB0.out.trans (hB01.mono HB0.out.size)
  have hgc : w.heap.size + 3 ≤ w1.heap.size := by have := HS0.out; have := hb1.size; omega
  have hgW : w1.heap.size < W1.heap.size := hx4.lt
  clear hz hb1 hW1 hB1' hx4 hB01
  cases s2
  · have HCC : Hid (gcdI x y = if y < 0 then -gcdI x y else gcdI x y) := by
      have h : ¬ y < 0 := by simpa using HS2.out
      show gcdI x y = if y < 0 then -gcdI x y else gcdI x y
      rw [if_neg h]
    have k0 := HM.out.b.cell 0
    simp only [List.getElem?_cons_zero] at k0
    go_upto_region 2 with fail
    rw [HW1.out]
    clear k0
    have m1 := HM.out.cells
    obtain ⟨⟨a0, a1, af⟩, ⟨b0, b1, bf⟩, ⟨q0, q1, qf⟩⟩ := m1
    go_upto_region 5 with fail
    go_wp2_with fail
    refine (dividedBy_any B _ _ x (gcdI x y) n n _ (by have := HBW.out; have := HB1.out.size; omega) (HA.out.below HB1.out) HZ.out (HC.out _ HCC.out) (by omega) (by omega) (HSP.out.below HB1.out)).mono ?_
    rintro e w5 ⟨z1, z2, qn, qr, rfl, hz1, hz2, hdv, hb5⟩
    obtain ⟨s5, p5, l5, c5, rfl⟩ := hz1.shape
    obtain ⟨s6, p6, l6, c6, rfl⟩ := hz2.shape
    have HD5 := hidG hdv
    have HM5 := hidG (HM.out.below (N := W1.heap.size) (by omega) (by omega) hb5)
    have HZ5 := hidG hz1
    have HC5 := hidG (HZ.out.below hb5)
    have HB5 := hidG (HB1.out.trans (hb5.mono HB1.out.size))
    have hg5 : w1.heap.size < w5.heap.size := HM5.out.c.lt
    clear hz1 hz2 hdv hb5 a0 a1 af b0 b1 bf q0 q1 qf
    obtain ⟨⟨a0, a1, af⟩, ⟨b0, b1, bf⟩, ⟨q0, q1, qf⟩⟩ := HM5.out.cells
    have af0 := af 0
    have af1 := af 1
    clear af bf qf
    have hnA := noInt2 HM5.out.a
    obtain ⟨W6, hW6⟩ : ∃ W6, (w5.setCell ⟨w.heap.size, 0, none⟩ (.bool s5)).setCell ⟨w.heap.size, 1, none⟩ (.slice p5 l5 c5) = W6 := ⟨_, rfl⟩
    have HW6 := hidG hW6
    have HZ6 : Hid (IsI B W6 (.agg #[.bool s5, .slice p5 l5 c5]) qn (n + 2)) := by have h := HZ5.out.put2 hnA (.bool s5) (.slice p5 l5 c5); rw [hW6] at h; exact h
    have HC6 : Hid (IsI B W6 (.agg #[.bool s3, .slice p3 l3 c3]) (gcdI x y) n) := by have h := HC5.out.put2 hnA (.bool s5) (.slice p5 l5 c5); rw [hW6] at h; exact h
    have HD6 : Hid (IsI B W6 (.agg #[.bool false, .slice p2 l2 c2]) y n) := by have h := (HB.out.below HB5.out).put2 hnA (.bool s5) (.slice p5 l5 c5); rw [hW6] at h; exact h
    have HB6 : Hid (Below w.heap.size w W6) := by have h := set2 HB5.out w.heap.size (Nat.le_refl _) (.bool s5) (.slice p5 l5 c5); rw [hW6] at h; exact h
    have HM6 : Hid (BxM w.heap.size w1.heap.size W6 s5 (.slice p5 l5 c5) false (.slice p2 l2 c2) s3 (.slice p3 l3 c3)) := by
      have h1 := HM5.out.a.put2 (.bool s5) (.slice p5 l5 c5)
      have h2 := HM5.out.b.off2 (k := w.heap.size) (by omega) (.bool s5) (.slice p5 l5 c5)
      have h3 := HM5.out.r.off2 (k := w.heap.size) (by omega) (.bool s5) (.slice p5 l5 c5)
      have h4 := HM5.out.c.off2 (k := w.heap.size) (by omega) (.bool s5) (.slice p5 l5 c5)
      rw [hW6] at h1 h2 h3 h4
      exact ⟨h1, h2, h3, h4⟩
    have hg6 : w1.heap.size < W6.heap.size := HM6.out.c.lt
    clear hW6 hnA
    go_upto_region 6 with fail
    go_wp2_with fail
    rw [HW6.out]
    refine (dividedBy_any B _ _ y (gcdI x y) n n _ (by have := HBW.out; have := HB6.out.size; omega) HD6.out HC6.out (HC.out _ HCC.out) (by omega) (by omega) (HSP.out.below HB6.out)).mono ?_
    rintro e w7 ⟨z3, z4, dn, dr, rfl, hz3, hz4, hdv, hb7⟩
    obtain ⟨s7, p7, l7, c7, rfl⟩ := hz3.shape
    obtain ⟨s8, p8, l8, c8, rfl⟩ := hz4.shape
    have HLW := hidG (HLOW.out _ _ _ _ _ HCC.out HD5.out hdv)
    have HM7 := hidG (HM6.out.below (N := W6.heap.size) (by omega) (by omega) hb7)
    have HQ7 := hidG (HZ6.out.below hb7)
    have HD7 := hidG hz3
    have HB7 := hidG (HB6.out.trans (hb7.mono HB6.out.size))
    clear hz3 hz4 hdv hb7 a0 a1 b0 b1 q0 q1 af0 af1
    have hnB := noInt2 HM7.out.b
    obtain ⟨W8, hW8⟩ : ∃ W8, (w7.setCell ⟨w.heap.size + 1, 0, none⟩ (.bool s7)).setCell ⟨w.heap.size + 1, 1, none⟩ (.slice p7 l7 c7) = W8 := ⟨_, rfl⟩
    have HW8 := hidG hW8
    have HQ8 : Hid (IsI B W8 (.agg #[.bool s5, .slice p5 l5 c5]) qn (n + 2)) := by have h := HQ7.out.put2 hnB (.bool s7) (.slice p7 l7 c7); rw [hW8] at h; exact h
    have HD8 : Hid (IsI B W8 (.agg #[.bool s7, .slice p7 l7 c7]) dn (n + 2)) := by have h := HD7.out.put2 hnB (.bool s7) (.slice p7 l7 c7); rw [hW8] at h; exact h
    have HB8 : Hid (Below w.heap.size w W8) := by have h := set2 HB7.out (w.heap.size + 1) (Nat.le_succ _) (.bool s7) (.slice p7 l7 c7); rw [hW8] at h; exact h
    have HM8 : Hid (BxM w.heap.size w1.heap.size W8 s5 (.slice p5 l5 c5) s7 (.slice p7 l7 c7) s3 (.slice p3 l3 c3)) := by
      have h1 := HM7.out.a.off2 (k := w.heap.size + 1) (by omega) (.bool s7) (.slice p7 l7 c7)
      have h2 := HM7.out.b.put2 (.bool s7) (.slice p7 l7 c7)
      have h3 := HM7.out.r.off2 (k := w.heap.size + 1) (by omega) (.bool s7) (.slice p7 l7 c7)
      have h4 := HM7.out.c.off2 (k := w.heap.size + 1) (by omega) (.bool s7) (.slice p7 l7 c7)
      rw [hW8] at h1 h2 h3 h4
      exact ⟨h1, h2, h3, h4⟩
    clear hW8 hnB
    obtain ⟨_, ⟨b0, b1, bf⟩, _⟩ := HM7.out.cells
    have bf0 := bf 0
    have bf1 := bf 1
    clear bf
    go_upto_region 6 with fail
    rw [HW8.out]
    clear b0 b1 bf0 bf1
    obtain ⟨⟨a0, a1, _⟩, ⟨b0, b1, _⟩, _⟩ := HM8.out.cells
    have r0 := HM8.out.r.cell 0
    have r1 := HM8.out.r.cell 1
    have r2 := HM8.out.r.cell 2
    have r3 := HM8.out.r.cell 3
    simp only [List.getElem?_cons_zero, List.getElem?_cons_succ] at r0 r1 r2 r3
    have f0 := HM8.out.r.frozen 0
    have f1 := HM8.out.r.frozen 1
    have f2 := HM8.out.r.frozen 2
    have f3 := HM8.out.r.frozen 3
    go_wp2

    have hnR : NoInt W8 (w.heap.size + 1 + 1) := noInt_of HM8.out.r (by simp)
    have hQ9 := HQ8.out.put4 hnR (.bool s5) (.slice p5 l5 c5) (.bool s7) (.slice p7 l7 c7)
    have hD9 := HD8.out.put4 hnR (.bool s5) (.slice p5 l5 c5) (.bool s7) (.slice p7 l7 c7)
    have hB9 := set4 HB8.out (w.heap.size + 1 + 1) (by omega) (.bool s5) (.slice p5 l5 c5) (.bool s7) (.slice p7 l7 c7)
    have hZ : Bx ((((W8.setCell ⟨w.heap.size + 1 + 1, 0, none⟩ (.bool s5)).setCell ⟨w.heap.size + 1 + 1, 1, none⟩ (.slice p5 l5 c5)).setCell ⟨w.heap.size + 1 + 1, 2, none⟩ (.bool s7)).setCell ⟨w.heap.size + 1 + 1, 3, none⟩ (.slice p7 l7 c7)) (w.heap.size + 1 + 1) [.bool s5, .slice p5 l5 c5, .bool s7, .slice p7 l7 c7] := (((HM8.out.r.set 0 _).set 1 _).set 2 _).set 3 _
    generalize (((W8.setCell ⟨w.heap.size + 1 + 1, 0, none⟩ (.bool s5)).setCell ⟨w.heap.size + 1 + 1, 1, none⟩ (.slice p5 l5 c5)).setCell ⟨w.heap.size + 1 + 1, 2, none⟩ (.bool s7)).setCell ⟨w.heap.size + 1 + 1, 3, none⟩ (.slice p7 l7 c7) = W9 at *
    have m0 := hZ.cell 0
    have m1 := hZ.cell 1
    have m2 := hZ.cell 2
    have m3 := hZ.cell 3
    simp only [List.getElem?_cons_zero, List.getElem?_cons_succ] at m0 m1 m2 m3
    refine bodyPost_ret (v := .agg #[.bool s5, .slice p5 l5 c5, .bool s7, .slice p7 l7 c7]) ?_ rfl ⟨_, qn, dn, rfl, ⟨s5, _, s7, _, rfl, hQ9.mono (Nat.le_refl _) (by omega), hD9.mono (Nat.le_refl _) (by omega)⟩, HLW.out, hB9⟩
    simp [results, Tryd.results19, go_sem, m0, m1, m2, m3]
  · have HCC : Hid (-gcdI x y = if y < 0 then -gcdI x y else gcdI x y) := by
      have h : y < 0 := by simpa using HS2.out
      show -gcdI x y = if y < 0 then -gcdI x y else gcdI x y
      rw [if_pos h]
    have k0 := HM.out.b.cell 0
    simp only [List.getElem?_cons_zero] at k0
    obtain ⟨_, _, ⟨q0, q1, _⟩⟩ := HM.out.cells
    go_upto_region 2 with fail
    rw [HW1.out]
    go_wp2_with fail
    refine (negated_any B _ _ n _ HZ.out).mono ?_
    rintro e w2 ⟨z4, rfl, hz4, hb2⟩
    obtain ⟨s4, p4, l4, c4, rfl⟩ := hz4.shape
    have hm2 := HM.out.below (N := W1.heap.size) (by omega) (by omega) hb2
    have hnC := noInt2 hm2.c
    obtain ⟨W2, hW2⟩ : ∃ W2, (w2.setCell ⟨w1.heap.size, 0, none⟩ (.bool s4)).setCell ⟨w1.heap.size, 1, none⟩ (.slice p4 l4 c4) = W2 := ⟨_, rfl⟩
    have HW2 := hidG hW2
    have HZ2 : Hid (IsI B W2 (.agg #[.bool s4, .slice p4 l4 c4]) (-gcdI x y) n) := by have h := hz4.put2 hnC (.bool s4) (.slice p4 l4 c4); rw [hW2] at h; exact h
    have HB2 : Hid (Below w.heap.size w W2) := by have h := set2 (HB1.out.trans (hb2.mono HB1.out.size)) w1.heap.size (by omega) (.bool s4) (.slice p4 l4 c4); rw [hW2] at h; exact h
    have HM2 : Hid (BxM w.heap.size w1.heap.size W2 s1 (.slice p1 l1 c1) true (.slice p2 l2 c2) s4 (.slice p4 l4 c4)) := by
      have h1 := hm2.a.off2 (k := w1.heap.size) (by omega) (.bool s4) (.slice p4 l4 c4)
      have h2 := hm2.b.off2 (k := w1.heap.size) (by omega) (.bool s4) (.slice p4 l4 c4)
      have h3 := hm2.r.off2 (k := w1.heap.size) (by omega) (.bool s4) (.slice p4 l4 c4)
      have h4 := hm2.c.put2 (.bool s4) (.slice p4 l4 c4)
      rw [hW2] at h1 h2 h3 h4
      exact ⟨h1, h2, h3, h4⟩
    have hgW2 : w1.heap.size < W2.heap.size := HM2.out.c.lt
    have HCB : Hid (w2.frozen? ⟨w1.heap.size, 0, none⟩ = false ∧ w2.frozen? ⟨w1.heap.size, 1, none⟩ = false ∧ w2.cell? ⟨w1.heap.size, 0, none⟩ = some (.bool s3) ∧ w2.cell? ⟨w1.heap.size, 1, none⟩ = some (.slice p3 l3 c3)) := ⟨hm2.c.frozen 0, hm2.c.frozen 1, hm2.c.cell 0, hm2.c.cell 1⟩
    obtain ⟨g0, g1, g2, g3⟩ := HCB.out
    clear hz4 hb2 hm2 hnC hW2 k0 q0 q1 HCB
    go_upto_region 4 with fail
    rw [HW2.out]
    clear g0 g1 g2 g3
    have m1 := HM2.out.cells
    obtain ⟨⟨a0, a1, af⟩, ⟨b0, b1, bf⟩, ⟨q0, q1, qf⟩⟩ := m1
    go_upto_region 5 with fail
    go_wp2_with fail
    refine (dividedBy_any B _ _ x (-gcdI x y) n n _ (by have := HBW.out; have := HB2.out.size; omega) (HA.out.below HB2.out) HZ2.out (HC.out _ HCC.out) (by omega) (by omega) (HSP.out.below HB2.out)).mono ?_
    rintro e w5 ⟨z1, z2, qn, qr, rfl, hz1, hz2, hdv, hb5⟩
    obtain ⟨s5, p5, l5, c5, rfl⟩ := hz1.shape
    obtain ⟨s6, p6, l6, c6, rfl⟩ := hz2.shape
    have HD5 := hidG hdv
    have HM5 := hidG (HM2.out.below (N := W2.heap.size) (by omega) (by omega) hb5)
    have HZ5 := hidG hz1
    have HC5 := hidG (HZ2.out.below hb5)
    have HB5 := hidG (HB2.out.trans (hb5.mono HB2.out.size))
    have hg5 : w1.heap.size < w5.heap.size := HM5.out.c.lt
    clear hz1 hz2 hdv hb5 a0 a1 af b0 b1 bf q0 q1 qf
    obtain ⟨⟨a0, a1, af⟩, ⟨b0, b1, bf⟩, ⟨q0, q1, qf⟩⟩ := HM5.out.cells
    have af0 := af 0
    have af1 := af 1
    clear af bf qf
    have hnA := noInt2 HM5.out.a
    obtain ⟨W6, hW6⟩ : ∃ W6, (w5.setCell ⟨w.heap.size, 0, none⟩ (.bool s5)).setCell ⟨w.heap.size, 1, none⟩ (.slice p5 l5 c5) = W6 := ⟨_, rfl⟩
    have HW6 := hidG hW6
    have HZ6 : Hid (IsI B W6 (.agg #[.bool s5, .slice p5 l5 c5]) qn (n + 2)) := by have h := HZ5.out.put2 hnA (.bool s5) (.slice p5 l5 c5); rw [hW6] at h; exact h
    have HC6 : Hid (IsI B W6 (.agg #[.bool s4, .slice p4 l4 c4]) (-gcdI x y) n) := by have h := HC5.out.put2 hnA (.bool s5) (.slice p5 l5 c5); rw [hW6] at h; exact h
    have HD6 : Hid (IsI B W6 (.agg #[.bool true, .slice p2 l2 c2]) y n) := by have h := (HB.out.below HB5.out).put2 hnA (.bool s5) (.slice p5 l5 c5); rw [hW6] at h; exact h
    have HB6 : Hid (Below w.heap.size w W6) := by have h := set2 HB5.out w.heap.size (Nat.le_refl _) (.bool s5) (.slice p5 l5 c5); rw [hW6] at h; exact h
    have HM6 : Hid (BxM w.heap.size w1.heap.size W6 s5 (.slice p5 l5 c5) true (.slice p2 l2 c2) s4 (.slice p4 l4 c4)) := by
      have h1 := HM5.out.a.put2 (.bool s5) (.slice p5 l5 c5)
      have h2 := HM5.out.b.off2 (k := w.heap.size) (by omega) (.bool s5) (.slice p5 l5 c5)
      have h3 := HM5.out.r.off2 (k := w.heap.size) (by omega) (.bool s5) (.slice p5 l5 c5)
      have h4 := HM5.out.c.off2 (k := w.heap.size) (by omega) (.bool s5) (.slice p5 l5 c5)
      rw [hW6] at h1 h2 h3 h4
      exact ⟨h1, h2, h3, h4⟩
    have hg6 : w1.heap.size < W6.heap.size := HM6.out.c.lt
    clear hW6 hnA
    go_upto_region 6 with fail
    go_wp2_with fail
    rw [HW6.out]
    refine (dividedBy_any B _ _ y (-gcdI x y) n n _ (by have := HBW.out; have := HB6.out.size; omega) HD6.out HC6.out (HC.out _ HCC.out) (by omega) (by omega) (HSP.out.below HB6.out)).mono ?_
    rintro e w7 ⟨z3, z4, dn, dr, rfl, hz3, hz4, hdv, hb7⟩
    obtain ⟨s7, p7, l7, c7, rfl⟩ := hz3.shape
    obtain ⟨s8, p8, l8, c8, rfl⟩ := hz4.shape
    have HLW := hidG (HLOW.out _ _ _ _ _ HCC.out HD5.out hdv)
    have HM7 := hidG (HM6.out.below (N := W6.heap.size) (by omega) (by omega) hb7)
    have HQ7 := hidG (HZ6.out.below hb7)
    have HD7 := hidG hz3
    have HB7 := hidG (HB6.out.trans (hb7.mono HB6.out.size))
    clear hz3 hz4 hdv hb7 a0 a1 b0 b1 q0 q1 af0 af1
    have hnB := noInt2 HM7.out.b
    obtain ⟨W8, hW8⟩ : ∃ W8, (w7.setCell ⟨w.heap.size + 1, 0, none⟩ (.bool s7)).setCell ⟨w.heap.size + 1, 1, none⟩ (.slice p7 l7 c7) = W8 := ⟨_, rfl⟩
    have HW8 := hidG hW8
    have HQ8 : Hid (IsI B W8 (.agg #[.bool s5, .slice p5 l5 c5]) qn (n + 2)) := by have h := HQ7.out.put2 hnB (.bool s7) (.slice p7 l7 c7); rw [hW8] at h; exact h
    have HD8 : Hid (IsI B W8 (.agg #[.bool s7, .slice p7 l7 c7]) dn (n + 2)) := by have h := HD7.out.put2 hnB (.bool s7) (.slice p7 l7 c7); rw [hW8] at h; exact h
    have HB8 : Hid (Below w.heap.size w W8) := by have h := set2 HB7.out (w.heap.size + 1) (Nat.le_succ _) (.bool s7) (.slice p7 l7 c7); rw [hW8] at h; exact h
    have HM8 : Hid (BxM w.heap.size w1.heap.size W8 s5 (.slice p5 l5 c5) s7 (.slice p7 l7 c7) s4 (.slice p4 l4 c4)) := by
      have h1 := HM7.out.a.off2 (k := w.heap.size + 1) (by omega) (.bool s7) (.slice p7 l7 c7)
      have h2 := HM7.out.b.put2 (.bool s7) (.slice p7 l7 c7)
      have h3 := HM7.out.r.off2 (k := w.heap.size + 1) (by omega) (.bool s7) (.slice p7 l7 c7)
      have h4 := HM7.out.c.off2 (k := w.heap.size + 1) (by omega) (.bool s7) (.slice p7 l7 c7)
      rw [hW8] at h1 h2 h3 h4
      exact ⟨h1, h2, h3, h4⟩
    clear hW8 hnB
    obtain ⟨_, ⟨b0, b1, bf⟩, _⟩ := HM7.out.cells
    have bf0 := bf 0
    have bf1 := bf 1
    clear bf
    go_upto_region 6 with fail
    rw [HW8.out]
    clear b0 b1 bf0 bf1
    obtain ⟨⟨a0, a1, _⟩, ⟨b0, b1, _⟩, _⟩ := HM8.out.cells
    have r0 := HM8.out.r.cell 0
    have r1 := HM8.out.r.cell 1
    have r2 := HM8.out.r.cell 2
    have r3 := HM8.out.r.cell 3
    simp only [List.getElem?_cons_zero, List.getElem?_cons_succ] at r0 r1 r2 r3
    have f0 := HM8.out.r.frozen 0
    have f1 := HM8.out.r.frozen 1
    have f2 := HM8.out.r.frozen 2
    have f3 := HM8.out.r.frozen 3
    go_wp2

    have hnR : NoInt W8 (w.heap.size + 1 + 1) := noInt_of HM8.out.r (by simp)
    have hQ9 := HQ8.out.put4 hnR (.bool s5) (.slice p5 l5 c5) (.bool s7) (.slice p7 l7 c7)
    have hD9 := HD8.out.put4 hnR (.bool s5) (.slice p5 l5 c5) (.bool s7) (.slice p7 l7 c7)
    have hB9 := set4 HB8.out (w.heap.size + 1 + 1) (by omega) (.bool s5) (.slice p5 l5 c5) (.bool s7) (.slice p7 l7 c7)
    have hZ : Bx ((((W8.setCell ⟨w.heap.size + 1 + 1, 0, none⟩ (.bool s5)).setCell ⟨w.heap.size + 1 + 1, 1, none⟩ (.slice p5 l5 c5)).setCell ⟨w.heap.size + 1 + 1, 2, none⟩ (.bool s7)).setCell ⟨w.heap.size + 1 + 1, 3, none⟩ (.slice p7 l7 c7)) (w.heap.size + 1 + 1) [.bool s5, .slice p5 l5 c5, .bool s7, .slice p7 l7 c7] := (((HM8.out.r.set 0 _).set 1 _).set 2 _).set 3 _
    generalize (((W8.setCell ⟨w.heap.size + 1 + 1, 0, none⟩ (.bool s5)).setCell ⟨w.heap.size + 1 + 1, 1, none⟩ (.slice p5 l5 c5)).setCell ⟨w.heap.size + 1 + 1, 2, none⟩ (.bool s7)).setCell ⟨w.heap.size + 1 + 1, 3, none⟩ (.slice p7 l7 c7) = W9 at *
    have m0 := hZ.cell 0
    have m1 := hZ.cell 1
    have m2 := hZ.cell 2
    have m3 := hZ.cell 3
    simp only [List.getElem?_cons_zero, List.getElem?_cons_succ] at m0 m1 m2 m3
    refine bodyPost_ret (v := .agg #[.bool s5, .slice p5 l5 c5, .bool s7, .slice p7 l7 c7]) ?_ rfl ⟨_, qn, dn, rfl, ⟨s5, _, s7, _, rfl, hQ9.mono (Nat.le_refl _) (by omega), hD9.mono (Nat.le_refl _) (by omega)⟩, HLW.out, hB9⟩
    simp [results, Tryd.results19, go_sem, m0, m1, m2, m3]
end Go.Proofs.YtpjnglcojamfmaaDoor
