import Derived.Test.YtfmpapcfhoomkaaGreatDoorRatLowp
import Derived.Test.YtfmpapcfhoomkaaGreatDoorCutAp
import Derived.Test.YtfmpapcfhoomkaaGreatDoorDivTopp
import Derived.Deep.DeepCutAuto
namespace Go.Proofs.YtfmpapcfhoomkaaGreatDoor
open Go.ChangeShapes Go.WideShapes Go.ChangeAt Go.RowKit
theorem noInt_of {W : World} {g : Nat} {l : List Value} (h : Bx W g l) (hl : ∀ v ∈ l, ∀ x, v ≠ .int .u32 x) : NoInt W g := fun i x => by
 rw [h.cell i]
 intro e
 exact hl _ (List.mem_of_getElem? e) x rfl
theorem IsL.put2 {B : Nat} {W : World} {v : Value} {l : List Nat} (h : IsL B W v l) {g : Nat} (n : NoInt W g) (u0 u1 : Value) : IsL B ((W.setCell ⟨g, 0, none⟩ u0).setCell ⟨g, 1, none⟩ u1) v l :=
 h.keeps n n (Keeps.setCell (Keeps.setCell (Keeps.refl g g W) ⟨g, 0, none⟩ u0 (Or.inl rfl)) ⟨g, 1, none⟩ u1 (Or.inl rfl))
theorem set2 {N : Nat} {w W : World} (h : Below N w W) (g : Nat) (hg : N ≤ g) (u0 u1 : Value) : Below N w ((W.setCell ⟨g, 0, none⟩ u0).setCell ⟨g, 1, none⟩ u1) :=
 (h.setCell (p := ⟨g, 0, none⟩) hg u0).setCell (p := ⟨g, 1, none⟩) hg u1
set_option maxRecDepth 100000 in
set_option maxHeartbeats 1000000 in
theorem wholeNumber_any (n : Nat) (w : World) (hn : n < 18446744073709551616) :
 Calls Tryz.prog 154 #[.int .u64 (n : Nat)] w fun e w' => ∃ z, e = .returned z ∧ IsI w.heap.size w' z (n : Nat) 3 ∧ Up w w' := by
 obtain ⟨W0, hW0⟩ := exW (w.alloc (.cells #[.bool false, .slice none 0 0] 46)); have HW0 := Hd hW0; have hbx : Bx W0 w.heap.size [.bool false, .slice none 0 0] := by rw [← hW0]; exact bx_new w _ _
 have HB0 : Hid (Up w W0) := by unfold Hid; rw [← hW0]; exact below_alloc _ _
 have HBX : Hid (∀ W, Up W0 W → Bx W w.heap.size [.bool false, .slice none 0 0]) := fun W hW => hbx.below hbx.lt hW; clear hW0 hbx
 go_enter Tryz.func154, Tryz.ntmps154
 go_wp2_with fail
 rw [HW0.o]; refine (limbsOf_trim n _ hn).mono ?_; rintro e w1 ⟨v, t, rfl, hv, ht, hvt, hlt, hb1⟩; have HV := Hd hv; have HB1 := Hd hb1; have HT : Hid (isTrim t ∧ val t = n ∧ t.length ≤ 3) := ⟨ht, hvt, hlt⟩; obtain ⟨pv, cv, hvv, _⟩ := hv; subst hvv; clear ht hvt hlt hb1
 go_wp2_with fail
 refine (makeInteger_any W0.heap.size false _ t _ HV.o).mono ?_; rintro e w2 ⟨v', rfl, hcut, hb2⟩; have HV2 : Hid (IsL W0.heap.size w2 v' t) := by
  have h := hcut _ _ (HV.o.below hb2); rw [trimL_of_trim t HT.o.1] at h; exact h
 have HB2 := Hd (HB1.o.trans (hb2.mono HB1.o.size)); have e1 : negOf false (trimL t) = false := by unfold negOf; rfl
 rw [e1]; have hb := HBX.o w2 HB2.o; obtain ⟨k0, k1⟩ := hb.c2; obtain ⟨r0, r1⟩ := hb.f2; obtain ⟨p2, c2, hv2, _⟩ := HV2.o; subst hv2; clear hcut hb2 hb e1
 go_wp2
 have hbw := HBX.o w2 HB2.o; have hno := noInt_of hbw (by simp); have hLL := (HV2.o.mono HB0.o.size).put2 hno (.bool false) (.slice p2 t.length c2); have hZ : Bx ((w2.setCell ⟨w.heap.size, 0, none⟩ (.bool false)).setCell ⟨w.heap.size, 1, none⟩ (.slice p2 t.length c2)) w.heap.size [.bool false, .slice p2 t.length c2] := (hbw.set 0 _).set 1 _; have hE := set2 (HB0.o.trans (HB2.o.mono HB0.o.size)) w.heap.size leR (.bool false) (.slice p2 t.length c2); generalize (w2.setCell ⟨w.heap.size, 0, none⟩ (.bool false)).setCell ⟨w.heap.size, 1, none⟩ (.slice p2 t.length c2) = WE at *; obtain ⟨m0, m1⟩ := hZ.c2; refine bodyPost_ret (v := .agg #[.bool false, .slice p2 t.length c2]) ?_ rfl ⟨_, rfl, ⟨false, _, t, by unfold negOf; rfl, hLL, HT.o.1, by rw [HT.o.2.1]; rfl, HT.o.2.2⟩, hE⟩; simp [results, Tryz.results154, go_sem, m0, m1]
def IsQR (B : Nat) (w : World) (z : Value) (x y : Int) (n : Nat) : Prop := ∃ s1 v1 s2 v2, z = .agg #[.bool s1, v1, .bool s2, v2] ∧ IsI B w (.agg #[.bool s1, v1]) x n ∧ IsI B w (.agg #[.bool s2, v2]) y n
theorem IsQR.below {B : Nat} {w w' : World} {z : Value} {x y : Int} {n : Nat} (h : IsQR B w z x y n) (hb : Up w w') : IsQR B w' z x y n := by
 obtain ⟨s1, v1, s2, v2, e, h1, h2⟩ := h; exact ⟨s1, v1, s2, v2, e, h1.below hb, h2.below hb⟩
theorem IsI.parts {B : Nat} {w : World} {s : Bool} {v : Value} {x : Int} {n : Nat} (h : IsI B w (.agg #[.bool s, v]) x n) : ∃ neg t, s = negOf neg t ∧ IsL B w v t ∧ isTrim t ∧ sg neg (val t) = x ∧ t.length ≤ n := by
 obtain ⟨neg, v', t, e, h1, h2, h3, h4⟩ := h; simp only [Value.agg.injEq, Array.mk.injEq, List.cons.injEq, Value.bool.injEq, and_true] at e; obtain ⟨rfl, rfl⟩ := e; exact ⟨neg, t, rfl, h1, h2, h3, h4⟩
theorem ordI_zero (x y : Int) : (ordI x y == 0) = decide (x = y) := by
 unfold ordI
 split
 ·rename_i h; have : x ≠ y := by omega
  simp [this]
 split
 ·rename_i h; have : x ≠ y := by omega
  simp [this]
 rename_i h1 h2; have : x = y := by omega
 simp [this]
set_option maxRecDepth 100000 in
set_option maxHeartbeats 1000000 in
theorem isWhole_any (B : Nat) (z : Value) (x y : Int) (n : Nat) (w : World) (hBw : B ≤ w.heap.size) (h : IsQR B w z x y n) (hSP : SP w) :
 Calls Tryz.prog 153 #[z] w fun e w' => e = .returned (.bool (decide (y = 1))) ∧ Up w w' := by
 obtain ⟨s1, v1, s2, v2, rfl, h1, h2⟩ := h; obtain ⟨n1, t1, rfl, hL1, _, _, _⟩ := h1.parts; obtain ⟨n2, t2, rfl, hL2, tr2, e2, _⟩ := h2.parts; have HL2 := Hd hL2; have HSP := Hd hSP; have HBW := Hd hBw; have HT : Hid (isTrim t2 ∧ sg n2 (val t2) = y) := ⟨tr2, e2⟩; obtain ⟨p1, c1, rfl, _, _, o1, _⟩ := hL1; obtain ⟨p2, c2, rfl, _, _, o2, _⟩ := hL2; have HO : Hid (okL t2) := o2; clear hSP hBw tr2 e2 h1 h2 o1 o2; obtain ⟨W0, hW0⟩ := exW (w.alloc (.cells #[.bool (negOf n1 t1), .slice p1 t1.length c1, .bool (negOf n2 t2), .slice p2 t2.length c2] 64)); have HW0 := Hd hW0; have hbx : Bx W0 w.heap.size [.bool (negOf n1 t1), .slice p1 t1.length c1, .bool (negOf n2 t2), .slice p2 t2.length c2] := by rw [← hW0]; exact bx_new w _ _
 have HB0 : Hid (Up w W0) := by unfold Hid; rw [← hW0]; exact below_alloc _ _
 have HBX : Hid (∀ W, Up W0 W → Bx W w.heap.size [.bool (negOf n1 t1), .slice p1 t1.length c1, .bool (negOf n2 t2), .slice p2 t2.length c2]) := fun W hW => hbx.below hbx.lt hW; clear hW0 hbx
 go_enter Tryz.func153, Tryz.ntmps153
 go_upto_region 1 with fail
 rw [HW0.o]; have hb0 := HBX.o W0 (Below.refl _ _); obtain ⟨k0, k1, k2, k3⟩ := hb0.c4; clear hb0
 go_region_with (first
  | (go_at_call 154
     refine (wholeNumber_any 1 _ (by decide)).mono ?_; rintro e w1 ⟨z, rfl, hz, hb1⟩; have HB1 : Hid (Up W0 w1) := (Below.refl _ W0).drew.trans hb1; obtain ⟨nz, vz, tz, rfl, hzL, hzt, hzv, _⟩ := hz; have HZ : Hid (IsL W0.heap.size w1 vz tz ∧ isTrim tz ∧ sg nz (val tz) = 1) := ⟨hzL, hzt, hzv⟩; obtain ⟨pz, cz, rfl, _, _, oz, _⟩ := hzL; have HOZ : Hid (okL tz) := oz; have hb0 := HBX.o w1 HB1.o; have j2 := hb0.cell 2; have j3 := hb0.cell 3; simp only [List.getElem?_cons_zero, List.getElem?_cons_succ] at j2 j3; clear hzt hzv hb1 oz hb0)
  | (go_at_call 42
     refine (compare_any B _ _ _ _ t2 tz _ (HL2.o.below (HB0.o.trans (HB1.o.mono HB0.o.size))) (HZ.o.1.mono (by have := HBW.o; have := HB0.o.size; omega)) (HSP.o.below (HB0.o.trans (HB1.o.mono HB0.o.size)))).mono ?_; rintro e w2 ⟨rfl, hb2⟩; have HB2 : Hid (Up w w2) := HB0.o.trans ((HB1.o.trans (hb2.mono HB1.o.size)).mono HB0.o.size); rw [cmpI_ord n2 nz t2 tz HO.o HOZ.o HT.o.1 HZ.o.2.1, HT.o.2, HZ.o.2.2]; clear hb2))
 all_goals
  try simp only [List.getElem_toArray, List.getElem_cons_succ, List.getElem_cons_zero, Act.put, List.setIfInBounds_toArray, List.set_cons_succ, List.set_cons_zero]
  go_wp2
  go_ret
  exact ⟨ret_bool (ordI_zero y 1), HB2.o⟩
theorem IsI.put2 {B : Nat} {W : World} {z : Value} {x : Int} {n : Nat} (h : IsI B W z x n) {g : Nat} (no : NoInt W g) (u0 u1 : Value) : IsI B ((W.setCell ⟨g, 0, none⟩ u0).setCell ⟨g, 1, none⟩ u1) z x n := by
 obtain ⟨neg, v, t, e, h1, h2, h3, h4⟩ := h; exact ⟨neg, v, t, e, h1.put2 no u0 u1, h2, h3, h4⟩
theorem IsL.put4 {B : Nat} {W : World} {v : Value} {l : List Nat} (h : IsL B W v l) {g : Nat} (n : NoInt W g) (u0 u1 u2 u3 : Value) : IsL B ((((W.setCell ⟨g, 0, none⟩ u0).setCell ⟨g, 1, none⟩ u1).setCell ⟨g, 2, none⟩ u2).setCell ⟨g, 3, none⟩ u3) v l :=
 h.keeps n n (Keeps.setCell (Keeps.setCell (Keeps.setCell (Keeps.setCell (Keeps.refl g g W) ⟨g, 0, none⟩ u0 (Or.inl rfl)) ⟨g, 1, none⟩ u1 (Or.inl rfl)) ⟨g, 2, none⟩ u2 (Or.inl rfl)) ⟨g, 3, none⟩ u3 (Or.inl rfl))
theorem IsI.put4 {B : Nat} {W : World} {z : Value} {x : Int} {n : Nat} (h : IsI B W z x n) {g : Nat} (no : NoInt W g) (u0 u1 u2 u3 : Value) : IsI B ((((W.setCell ⟨g, 0, none⟩ u0).setCell ⟨g, 1, none⟩ u1).setCell ⟨g, 2, none⟩ u2).setCell ⟨g, 3, none⟩ u3) z x n := by
 obtain ⟨neg, v, t, e, h1, h2, h3, h4⟩ := h; exact ⟨neg, v, t, e, h1.put4 no u0 u1 u2 u3, h2, h3, h4⟩
theorem set4 {N : Nat} {w W : World} (h : Below N w W) (g : Nat) (hg : N ≤ g) (u0 u1 u2 u3 : Value) : Below N w ((((W.setCell ⟨g, 0, none⟩ u0).setCell ⟨g, 1, none⟩ u1).setCell ⟨g, 2, none⟩ u2).setCell ⟨g, 3, none⟩ u3) :=
 (set2 h g hg u0 u1).setCell (p := ⟨g, 2, none⟩) hg u2 |>.setCell (p := ⟨g, 3, none⟩) hg u3
theorem Bx.put2 {W : World} {g : Nat} {a b : Value} (h : Bx W g [a, b]) (u0 u1 : Value) : Bx ((W.setCell ⟨g, 0, none⟩ u0).setCell ⟨g, 1, none⟩ u1) g [u0, u1] := (h.set 0 u0).set 1 u1
theorem Bx.off2 {W : World} {g : Nat} {l : List Value} (h : Bx W g l) {k : Nat} (hk : k ≠ g) (u0 u1 : Value) : Bx ((W.setCell ⟨k, 0, none⟩ u0).setCell ⟨k, 1, none⟩ u1) g l := (h.other ⟨k, 0, none⟩ hk u0).other ⟨k, 1, none⟩ hk u1
structure BxM (h hc : Nat) (W : World) (s1 : Bool) (v1 : Value) (s2 : Bool) (v2 : Value) (s3 : Bool) (v3 : Value) : Prop where
 a : Bx W h [.bool s1, v1]
 b : Bx W (h + 1) [.bool s2, v2]
 r : Bx W (h + 1 + 1) [.bool false, .slice none 0 0, .bool false, .slice none 0 0]
 c : Bx W hc [.bool s3, v3]
theorem BxM.below {h hc N : Nat} {W W' : World} {s1 s2 s3 : Bool} {v1 v2 v3 : Value} (m : BxM h hc W s1 v1 s2 v2 s3 v3) (hN : h + 3 ≤ N) (hc' : hc < N) (hb : Below N W W') : BxM h hc W' s1 v1 s2 v2 s3 v3 :=
 ⟨m.a.below (by omega) hb, m.b.below (by omega) hb, m.r.below (by omega) hb, m.c.below hc' hb⟩
theorem BxM.cells {h hc : Nat} {W : World} {s1 s2 s3 : Bool} {v1 v2 v3 : Value} (m : BxM h hc W s1 v1 s2 v2 s3 v3) :
 (W.cell? ⟨h, 0, none⟩ = some (.bool s1) ∧ W.cell? ⟨h, 1, none⟩ = some v1 ∧ ∀ i, W.frozen? ⟨h, i, none⟩ = false) ∧ (W.cell? ⟨h + 1, 0, none⟩ = some (.bool s2) ∧ W.cell? ⟨h + 1, 1, none⟩ = some v2 ∧ ∀ i, W.frozen? ⟨h + 1, i, none⟩ = false) ∧
 (W.cell? ⟨hc, 0, none⟩ = some (.bool s3) ∧ W.cell? ⟨hc, 1, none⟩ = some v3 ∧ ∀ i, W.frozen? ⟨hc, i, none⟩ = false) :=
 ⟨⟨m.a.cell 0, m.a.cell 1, m.a.frozen⟩, ⟨m.b.cell 0, m.b.cell 1, m.b.frozen⟩, ⟨m.c.cell 0, m.c.cell 1, m.c.frozen⟩⟩
theorem noInt2 {W : World} {g : Nat} {s : Bool} {p : Option Addr} {l c : Nat} (h : Bx W g [.bool s, .slice p l c]) : NoInt W g := noInt_of h (by simp)
theorem neg_iff (neg : Bool) (t : List Nat) (y : Int) (ht : isTrim t) (h : sg neg (val t) = y) : negOf neg t = decide (y < 0) := by
 unfold negOf
 by_cases hl : t = []
 ·subst hl; have : y = 0 := by rw [← h]; cases neg <;> simp [sg, val]
  subst this; simp
 have h1 := val_pos t ht hl; have h2 : 0 < t.length := List.length_pos_iff.2 hl
 cases neg
 ·have : ¬ y < 0 := by rw [← h]; simp [sg]
  simp [this]
 have : y < 0 := by rw [← h]; simp [sg]; omega
 simp [this, h2]
set_option maxRecDepth 100000 in
set_option maxHeartbeats 2000000 in
theorem makeRational_any (B : Nat) (za zb : Value) (x y : Int) (n : Nat) (w : World) (hBw : B ≤ w.heap.size) (ha : IsI B w za x n) (hb : IsI B w zb y n) (hy : y ≠ 0) (hn : n ≤ 80000) (hSP : SP w) (hNS : NS w) :
 Calls Tryz.prog 108 #[za, zb] w fun e w' => ∃ z p q, e = .returned z ∧ IsQR B w' z p q (n + 3) ∧ IsLow x y p q ∧ Up w w' := by
 obtain ⟨s1, p1, l1, c1, rfl⟩ := ha.shape; obtain ⟨s2, p2, l2, c2, rfl⟩ := hb.shape; have hs2 : s2 = decide (y < 0) := by
  obtain ⟨neg, t, e, _, ht, hv, _⟩ := hb.parts; rw [e]; exact neg_iff neg t y ht hv
 have HS2 := Hd hs2; clear hs2; have HA := Hd ha; have HB := Hd hb; have HSP := Hd hSP; have HNS := Hd hNS; have HBW := Hd hBw; have HC : Hid (∀ c, c = (if y < 0 then -gcdI x y else gcdI x y) → c ≠ 0) := fun c e => by
  have hg : 0 < Int.gcd x y := Int.gcd_pos_of_ne_zero_right _ hy; rw [e]; unfold gcdI; split <;> omega
 have HLOW : Hid (∀ c q r d r', c = (if y < 0 then -gcdI x y else gcdI x y) → IsDiv x c q r → IsDiv y c d r' → IsLow x y q d) := fun c q r d r' e h1 h2 => low_of_div x y c q r d r' hy e h1 h2; clear ha hb hSP hNS hBw; obtain ⟨W0, hW0⟩ := exW (((w.alloc (.cells #[.bool s1, .slice p1 l1 c1] 46)).alloc (.cells #[.bool s2, .slice p2 l2 c2] 46)).alloc (.cells #[.bool false, .slice none 0 0, .bool false, .slice none 0 0] 64)); have HW0 := Hd hW0; have hs0 : W0.heap.size = w.heap.size + 3 := by rw [← hW0]; simp
 have HS0 := Hd hs0; have HB0 : Hid (Up w W0) := by
  unfold Hid
  rw [← hW0]; exact below_al (below_al (below_alloc _ _) _) _
 have hx1 : Bx W0 w.heap.size [.bool s1, .slice p1 l1 c1] := by rw [← hW0]; exact ((bx_new w _ _).alloc _).alloc _
 have hx2 : Bx W0 (w.heap.size + 1) [.bool s2, .slice p2 l2 c2] := by
  rw [← hW0]; have h := bx_new (w.alloc (.cells #[.bool s1, .slice p1 l1 c1] 46)) [.bool s2, .slice p2 l2 c2] 46; rw [World.size_alloc] at h; exact h.alloc _
 have hx3 : Bx W0 (w.heap.size + 1 + 1) [.bool false, .slice none 0 0, .bool false, .slice none 0 0] := by
  rw [← hW0]; have h := bx_new ((w.alloc (.cells #[.bool s1, .slice p1 l1 c1] 46)).alloc (.cells #[.bool s2, .slice p2 l2 c2] 46)) [.bool false, .slice none 0 0, .bool false, .slice none 0 0] 64; rw [World.size_alloc, World.size_alloc] at h; exact h
 have HX : Hid (Bx W0 w.heap.size [.bool s1, .slice p1 l1 c1] ∧ Bx W0 (w.heap.size + 1) [.bool s2, .slice p2 l2 c2] ∧ Bx W0 (w.heap.size + 1 + 1) [.bool false, .slice none 0 0, .bool false, .slice none 0 0]) := ⟨hx1, hx2, hx3⟩; clear hW0 hs0 hx1 hx2 hx3
 go_enter Tryz.func108, Tryz.ntmps108
 go_wp2_with fail
 rw [HW0.o]; refine (commonDivisor_any B _ _ x y n _ (by have := HBW.o; have := HS0.o; omega) (HA.o.below HB0.o) (HB.o.below HB0.o) (by omega) (HNS.o.below HB0.o)).mono ?_; rintro e w1 ⟨z, rfl, hz, hb1⟩; obtain ⟨s3, p3, l3, c3, rfl⟩ := hz.shape; obtain ⟨W1, hW1⟩ := exW (w1.alloc (.cells #[.bool s3, .slice p3 l3 c3] 46)); have HW1 := Hd hW1; have hB1' : Up w1 W1 := by rw [← hW1]; exact below_alloc _ _
 have hx4 : Bx W1 w1.heap.size [.bool s3, .slice p3 l3 c3] := by rw [← hW1]; exact bx_new w1 _ _
 have hB01 : Up W0 W1 := hb1.trans (hB1'.mono hb1.size); have HM : Hid (BxM w.heap.size w1.heap.size W1 s1 (.slice p1 l1 c1) s2 (.slice p2 l2 c2) s3 (.slice p3 l3 c3)) := ⟨HX.o.1.below HX.o.1.lt hB01, HX.o.2.1.below HX.o.2.1.lt hB01, HX.o.2.2.below HX.o.2.2.lt hB01, hx4⟩; have HZ : Hid (IsI B W1 (.agg #[.bool s3, .slice p3 l3 c3]) (gcdI x y) n) := hz.below hB1'; have HB1 : Hid (Up w W1) := HB0.o.trans (hB01.mono HB0.o.size); have hgc : w.heap.size + 3 ≤ w1.heap.size := by have := HS0.o; have := hb1.size; omega
 have hgW : w1.heap.size < W1.heap.size := hx4.lt; clear hz hb1 hW1 hB1' hx4 hB01
 cases s2
 case' _ =>
  have HCC : Hid (gcdI x y = if y < 0 then -gcdI x y else gcdI x y) := by
   have h : ¬ y < 0 := by simpa using HS2.o
   show gcdI x y = if y < 0 then -gcdI x y else gcdI x y
   rw [if_neg h]
  have k0 := HM.o.b.cell 0; simp only [List.getElem?_cons_zero] at k0
  go_upto_region 2 with fail
  rw [HW1.o]; clear k0; have m1 := HM.o.cells; obtain ⟨⟨a0, a1, af⟩, ⟨b0, b1, bf⟩, ⟨q0, q1, qf⟩⟩ := m1
  go_upto_region 5 with fail
  go_wp2_with fail
  refine (dividedBy_any B _ _ x (gcdI x y) n n _ (by have := HBW.o; have := HB1.o.size; omega) (HA.o.below HB1.o) HZ.o (HC.o _ HCC.o) (by omega) (by omega) (HSP.o.below HB1.o)).mono ?_; rintro e w5 ⟨z1, z2, qn, qr, rfl, hz1, hz2, hdv, hb5⟩; obtain ⟨s5, p5, l5, c5, rfl⟩ := hz1.shape; obtain ⟨s6, p6, l6, c6, rfl⟩ := hz2.shape; have HD5 := Hd hdv; have HM5 := Hd (HM.o.below (N := W1.heap.size) (by omega) (by omega) hb5); have HZ5 := Hd hz1; have HC5 := Hd (HZ.o.below hb5); have HB5 := Hd (HB1.o.trans (hb5.mono HB1.o.size)); have hg5 : w1.heap.size < w5.heap.size := HM5.o.c.lt; clear hz1 hz2 hdv hb5 a0 a1 af b0 b1 bf q0 q1 qf; obtain ⟨⟨a0, a1, af⟩, ⟨b0, b1, bf⟩, ⟨q0, q1, qf⟩⟩ := HM5.o.cells; have af0 := af 0; have af1 := af 1; clear af bf qf; have hnA := noInt2 HM5.o.a; obtain ⟨W6, hW6⟩ := exW ((w5.setCell ⟨w.heap.size, 0, none⟩ (.bool s5)).setCell ⟨w.heap.size, 1, none⟩ (.slice p5 l5 c5)); have HW6 := Hd hW6; have HZ6 : Hid (IsI B W6 (.agg #[.bool s5, .slice p5 l5 c5]) qn (n + 2)) := by have h := HZ5.o.put2 hnA (.bool s5) (.slice p5 l5 c5); rw [hW6] at h; exact h
  have HC6 : Hid (IsI B W6 (.agg #[.bool s3, .slice p3 l3 c3]) (gcdI x y) n) := by have h := HC5.o.put2 hnA (.bool s5) (.slice p5 l5 c5); rw [hW6] at h; exact h
  have HD6 : Hid (IsI B W6 (.agg #[.bool false, .slice p2 l2 c2]) y n) := by have h := (HB.o.below HB5.o).put2 hnA (.bool s5) (.slice p5 l5 c5); rw [hW6] at h; exact h
  have HB6 : Hid (Up w W6) := by have h := set2 HB5.o w.heap.size leR (.bool s5) (.slice p5 l5 c5); rw [hW6] at h; exact h
  have HM6 : Hid (BxM w.heap.size w1.heap.size W6 s5 (.slice p5 l5 c5) false (.slice p2 l2 c2) s3 (.slice p3 l3 c3)) := by
   have h1 := HM5.o.a.put2 (.bool s5) (.slice p5 l5 c5); have h2 := HM5.o.b.off2 (k := w.heap.size) (by omega) (.bool s5) (.slice p5 l5 c5); have h3 := HM5.o.r.off2 (k := w.heap.size) (by omega) (.bool s5) (.slice p5 l5 c5); have h4 := HM5.o.c.off2 (k := w.heap.size) (by omega) (.bool s5) (.slice p5 l5 c5); rw [hW6] at h1 h2 h3 h4; exact ⟨h1, h2, h3, h4⟩
  have hg6 : w1.heap.size < W6.heap.size := HM6.o.c.lt; clear hW6 hnA
  go_upto_region 6 with fail
  go_wp2_with fail
  rw [HW6.o]; refine (dividedBy_any B _ _ y (gcdI x y) n n _ (by have := HBW.o; have := HB6.o.size; omega) HD6.o HC6.o (HC.o _ HCC.o) (by omega) (by omega) (HSP.o.below HB6.o)).mono ?_; rintro e w7 ⟨z3, z4, dn, dr, rfl, hz3, hz4, hdv, hb7⟩; obtain ⟨s7, p7, l7, c7, rfl⟩ := hz3.shape; obtain ⟨s8, p8, l8, c8, rfl⟩ := hz4.shape; have HLW := Hd (HLOW.o _ _ _ _ _ HCC.o HD5.o hdv); have HM7 := Hd (HM6.o.below (N := W6.heap.size) (by omega) (by omega) hb7); have HQ7 := Hd (HZ6.o.below hb7); have HD7 := Hd hz3; have HB7 := Hd (HB6.o.trans (hb7.mono HB6.o.size)); clear hz3 hz4 hdv hb7 a0 a1 b0 b1 q0 q1 af0 af1; have hnB := noInt2 HM7.o.b; obtain ⟨W8, hW8⟩ := exW ((w7.setCell ⟨w.heap.size + 1, 0, none⟩ (.bool s7)).setCell ⟨w.heap.size + 1, 1, none⟩ (.slice p7 l7 c7)); have HW8 := Hd hW8; have HQ8 : Hid (IsI B W8 (.agg #[.bool s5, .slice p5 l5 c5]) qn (n + 2)) := by have h := HQ7.o.put2 hnB (.bool s7) (.slice p7 l7 c7); rw [hW8] at h; exact h
  have HD8 : Hid (IsI B W8 (.agg #[.bool s7, .slice p7 l7 c7]) dn (n + 2)) := by have h := HD7.o.put2 hnB (.bool s7) (.slice p7 l7 c7); rw [hW8] at h; exact h
  have HB8 : Hid (Up w W8) := by have h := set2 HB7.o (w.heap.size + 1) (Nat.le_succ _) (.bool s7) (.slice p7 l7 c7); rw [hW8] at h; exact h
  have HM8 : Hid (BxM w.heap.size w1.heap.size W8 s5 (.slice p5 l5 c5) s7 (.slice p7 l7 c7) s3 (.slice p3 l3 c3)) := by
   have h1 := HM7.o.a.off2 (k := w.heap.size + 1) (by omega) (.bool s7) (.slice p7 l7 c7); have h2 := HM7.o.b.put2 (.bool s7) (.slice p7 l7 c7); have h3 := HM7.o.r.off2 (k := w.heap.size + 1) (by omega) (.bool s7) (.slice p7 l7 c7); have h4 := HM7.o.c.off2 (k := w.heap.size + 1) (by omega) (.bool s7) (.slice p7 l7 c7); rw [hW8] at h1 h2 h3 h4; exact ⟨h1, h2, h3, h4⟩
 rotate_left
 case' _ =>
  have HCC : Hid (-gcdI x y = if y < 0 then -gcdI x y else gcdI x y) := by
   have h : y < 0 := by simpa using HS2.o
   show -gcdI x y = if y < 0 then -gcdI x y else gcdI x y
   rw [if_pos h]
  have k0 := HM.o.b.cell 0; simp only [List.getElem?_cons_zero] at k0; obtain ⟨_, _, ⟨q0, q1, _⟩⟩ := HM.o.cells
  go_upto_region 2 with fail
  rw [HW1.o]
  go_wp2_with fail
  refine (negated_any B _ _ n _ HZ.o).mono ?_; rintro e w2 ⟨z4, rfl, hz4, hb2⟩; obtain ⟨s4, p4, l4, c4, rfl⟩ := hz4.shape; have hm2 := HM.o.below (N := W1.heap.size) (by omega) (by omega) hb2; have hnC := noInt2 hm2.c; obtain ⟨W2, hW2⟩ := exW ((w2.setCell ⟨w1.heap.size, 0, none⟩ (.bool s4)).setCell ⟨w1.heap.size, 1, none⟩ (.slice p4 l4 c4)); have HW2 := Hd hW2; have HZ2 : Hid (IsI B W2 (.agg #[.bool s4, .slice p4 l4 c4]) (-gcdI x y) n) := by have h := hz4.put2 hnC (.bool s4) (.slice p4 l4 c4); rw [hW2] at h; exact h
  have HB2 : Hid (Up w W2) := by have h := set2 (HB1.o.trans (hb2.mono HB1.o.size)) w1.heap.size (by omega) (.bool s4) (.slice p4 l4 c4); rw [hW2] at h; exact h
  have HM2 : Hid (BxM w.heap.size w1.heap.size W2 s1 (.slice p1 l1 c1) true (.slice p2 l2 c2) s4 (.slice p4 l4 c4)) := by
   have h1 := hm2.a.off2 (k := w1.heap.size) (by omega) (.bool s4) (.slice p4 l4 c4); have h2 := hm2.b.off2 (k := w1.heap.size) (by omega) (.bool s4) (.slice p4 l4 c4); have h3 := hm2.r.off2 (k := w1.heap.size) (by omega) (.bool s4) (.slice p4 l4 c4); have h4 := hm2.c.put2 (.bool s4) (.slice p4 l4 c4); rw [hW2] at h1 h2 h3 h4; exact ⟨h1, h2, h3, h4⟩
  have hgW2 : w1.heap.size < W2.heap.size := HM2.o.c.lt; have HCB : Hid (w2.frozen? ⟨w1.heap.size, 0, none⟩ = false ∧ w2.frozen? ⟨w1.heap.size, 1, none⟩ = false ∧ w2.cell? ⟨w1.heap.size, 0, none⟩ = some (.bool s3) ∧ w2.cell? ⟨w1.heap.size, 1, none⟩ = some (.slice p3 l3 c3)) := ⟨hm2.c.frozen 0, hm2.c.frozen 1, hm2.c.cell 0, hm2.c.cell 1⟩; obtain ⟨g0, g1, g2, g3⟩ := HCB.o; clear hz4 hb2 hm2 hnC hW2 k0 q0 q1 HCB
  go_upto_region 4 with fail
  rw [HW2.o]; clear g0 g1 g2 g3; have m1 := HM2.o.cells; obtain ⟨⟨a0, a1, af⟩, ⟨b0, b1, bf⟩, ⟨q0, q1, qf⟩⟩ := m1
  go_upto_region 5 with fail
  go_wp2_with fail
  refine (dividedBy_any B _ _ x (-gcdI x y) n n _ (by have := HBW.o; have := HB2.o.size; omega) (HA.o.below HB2.o) HZ2.o (HC.o _ HCC.o) (by omega) (by omega) (HSP.o.below HB2.o)).mono ?_; rintro e w5 ⟨z1, z2, qn, qr, rfl, hz1, hz2, hdv, hb5⟩; obtain ⟨s5, p5, l5, c5, rfl⟩ := hz1.shape; obtain ⟨s6, p6, l6, c6, rfl⟩ := hz2.shape; have HD5 := Hd hdv; have HM5 := Hd (HM2.o.below (N := W2.heap.size) (by omega) (by omega) hb5); have HZ5 := Hd hz1; have HC5 := Hd (HZ2.o.below hb5); have HB5 := Hd (HB2.o.trans (hb5.mono HB2.o.size)); have hg5 : w1.heap.size < w5.heap.size := HM5.o.c.lt; clear hz1 hz2 hdv hb5 a0 a1 af b0 b1 bf q0 q1 qf; obtain ⟨⟨a0, a1, af⟩, ⟨b0, b1, bf⟩, ⟨q0, q1, qf⟩⟩ := HM5.o.cells; have af0 := af 0; have af1 := af 1; clear af bf qf; have hnA := noInt2 HM5.o.a; obtain ⟨W6, hW6⟩ := exW ((w5.setCell ⟨w.heap.size, 0, none⟩ (.bool s5)).setCell ⟨w.heap.size, 1, none⟩ (.slice p5 l5 c5)); have HW6 := Hd hW6; have HZ6 : Hid (IsI B W6 (.agg #[.bool s5, .slice p5 l5 c5]) qn (n + 2)) := by have h := HZ5.o.put2 hnA (.bool s5) (.slice p5 l5 c5); rw [hW6] at h; exact h
  have HC6 : Hid (IsI B W6 (.agg #[.bool s4, .slice p4 l4 c4]) (-gcdI x y) n) := by have h := HC5.o.put2 hnA (.bool s5) (.slice p5 l5 c5); rw [hW6] at h; exact h
  have HD6 : Hid (IsI B W6 (.agg #[.bool true, .slice p2 l2 c2]) y n) := by have h := (HB.o.below HB5.o).put2 hnA (.bool s5) (.slice p5 l5 c5); rw [hW6] at h; exact h
  have HB6 : Hid (Up w W6) := by have h := set2 HB5.o w.heap.size leR (.bool s5) (.slice p5 l5 c5); rw [hW6] at h; exact h
  have HM6 : Hid (BxM w.heap.size w1.heap.size W6 s5 (.slice p5 l5 c5) true (.slice p2 l2 c2) s4 (.slice p4 l4 c4)) := by
   have h1 := HM5.o.a.put2 (.bool s5) (.slice p5 l5 c5); have h2 := HM5.o.b.off2 (k := w.heap.size) (by omega) (.bool s5) (.slice p5 l5 c5); have h3 := HM5.o.r.off2 (k := w.heap.size) (by omega) (.bool s5) (.slice p5 l5 c5); have h4 := HM5.o.c.off2 (k := w.heap.size) (by omega) (.bool s5) (.slice p5 l5 c5); rw [hW6] at h1 h2 h3 h4; exact ⟨h1, h2, h3, h4⟩
  have hg6 : w1.heap.size < W6.heap.size := HM6.o.c.lt; clear hW6 hnA
  go_upto_region 6 with fail
  go_wp2_with fail
  rw [HW6.o]; refine (dividedBy_any B _ _ y (-gcdI x y) n n _ (by have := HBW.o; have := HB6.o.size; omega) HD6.o HC6.o (HC.o _ HCC.o) (by omega) (by omega) (HSP.o.below HB6.o)).mono ?_; rintro e w7 ⟨z3, z4, dn, dr, rfl, hz3, hz4, hdv, hb7⟩; obtain ⟨s7, p7, l7, c7, rfl⟩ := hz3.shape; obtain ⟨s8, p8, l8, c8, rfl⟩ := hz4.shape; have HLW := Hd (HLOW.o _ _ _ _ _ HCC.o HD5.o hdv); have HM7 := Hd (HM6.o.below (N := W6.heap.size) (by omega) (by omega) hb7); have HQ7 := Hd (HZ6.o.below hb7); have HD7 := Hd hz3; have HB7 := Hd (HB6.o.trans (hb7.mono HB6.o.size)); clear hz3 hz4 hdv hb7 a0 a1 b0 b1 q0 q1 af0 af1; have hnB := noInt2 HM7.o.b; obtain ⟨W8, hW8⟩ := exW ((w7.setCell ⟨w.heap.size + 1, 0, none⟩ (.bool s7)).setCell ⟨w.heap.size + 1, 1, none⟩ (.slice p7 l7 c7)); have HW8 := Hd hW8; have HQ8 : Hid (IsI B W8 (.agg #[.bool s5, .slice p5 l5 c5]) qn (n + 2)) := by have h := HQ7.o.put2 hnB (.bool s7) (.slice p7 l7 c7); rw [hW8] at h; exact h
  have HD8 : Hid (IsI B W8 (.agg #[.bool s7, .slice p7 l7 c7]) dn (n + 2)) := by have h := HD7.o.put2 hnB (.bool s7) (.slice p7 l7 c7); rw [hW8] at h; exact h
  have HB8 : Hid (Up w W8) := by have h := set2 HB7.o (w.heap.size + 1) (Nat.le_succ _) (.bool s7) (.slice p7 l7 c7); rw [hW8] at h; exact h
  have HM8 : Hid (BxM w.heap.size w1.heap.size W8 s5 (.slice p5 l5 c5) s7 (.slice p7 l7 c7) s4 (.slice p4 l4 c4)) := by
   have h1 := HM7.o.a.off2 (k := w.heap.size + 1) (by omega) (.bool s7) (.slice p7 l7 c7); have h2 := HM7.o.b.put2 (.bool s7) (.slice p7 l7 c7); have h3 := HM7.o.r.off2 (k := w.heap.size + 1) (by omega) (.bool s7) (.slice p7 l7 c7); have h4 := HM7.o.c.off2 (k := w.heap.size + 1) (by omega) (.bool s7) (.slice p7 l7 c7); rw [hW8] at h1 h2 h3 h4; exact ⟨h1, h2, h3, h4⟩
 rotate_left
 all_goals
  clear hW8 hnB; obtain ⟨_, ⟨b0, b1, bf⟩, _⟩ := HM7.o.cells; have bf0 := bf 0; have bf1 := bf 1; clear bf
  go_upto_region 6 with fail
  rw [HW8.o]; clear b0 b1 bf0 bf1; obtain ⟨⟨a0, a1, _⟩, ⟨b0, b1, _⟩, _⟩ := HM8.o.cells; obtain ⟨r0, r1, r2, r3⟩ := HM8.o.r.c4; obtain ⟨f0, f1, f2, f3⟩ := HM8.o.r.f4
  go_wp2
  have hnR : NoInt W8 (w.heap.size + 1 + 1) := noInt_of HM8.o.r (by simp); have hQ9 := HQ8.o.put4 hnR (.bool s5) (.slice p5 l5 c5) (.bool s7) (.slice p7 l7 c7); have hD9 := HD8.o.put4 hnR (.bool s5) (.slice p5 l5 c5) (.bool s7) (.slice p7 l7 c7); have hB9 := set4 HB8.o (w.heap.size + 1 + 1) (by omega) (.bool s5) (.slice p5 l5 c5) (.bool s7) (.slice p7 l7 c7); have hZ : Bx ((((W8.setCell ⟨w.heap.size + 1 + 1, 0, none⟩ (.bool s5)).setCell ⟨w.heap.size + 1 + 1, 1, none⟩ (.slice p5 l5 c5)).setCell ⟨w.heap.size + 1 + 1, 2, none⟩ (.bool s7)).setCell ⟨w.heap.size + 1 + 1, 3, none⟩ (.slice p7 l7 c7)) (w.heap.size + 1 + 1) [.bool s5, .slice p5 l5 c5, .bool s7, .slice p7 l7 c7] := (((HM8.o.r.set 0 _).set 1 _).set 2 _).set 3 _; generalize (((W8.setCell ⟨w.heap.size + 1 + 1, 0, none⟩ (.bool s5)).setCell ⟨w.heap.size + 1 + 1, 1, none⟩ (.slice p5 l5 c5)).setCell ⟨w.heap.size + 1 + 1, 2, none⟩ (.bool s7)).setCell ⟨w.heap.size + 1 + 1, 3, none⟩ (.slice p7 l7 c7) = W9 at *; obtain ⟨m0, m1, m2, m3⟩ := hZ.c4; refine bodyPost_ret (v := .agg #[.bool s5, .slice p5 l5 c5, .bool s7, .slice p7 l7 c7]) ?_ rfl ⟨_, qn, dn, rfl, ⟨s5, _, s7, _, rfl, hQ9.mono leR (by omega), hD9.mono leR (by omega)⟩, HLW.o, hB9⟩; simp [results, Tryz.results108, go_sem, m0, m1, m2, m3]
end Go.Proofs.YtfmpapcfhoomkaaGreatDoor
