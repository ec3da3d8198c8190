import Derived.Test.YtfmpapcfhoomkaaGreatDoorRatABp
import Derived.Laws.StructEq
import Derived.Laws.Tables
namespace Go.Proofs.YtfmpapcfhoomkaaGreatDoor
open Go.ChangeShapes Go.WideShapes Go.ChangeAt Go.RowKit
def FormOf (x y : Int) (z : Value) : Prop := ∃ u v b, z = .agg #[.string u, .bool b, .string v] ∧ IsText x u ∧ (if y = 1 then b = false ∧ v = ⟨#[]⟩ else b = true ∧ IsText y v)
theorem IsQR.shape {B : Nat} {w : World} {z : Value} {x y : Int} {n : Nat} (h : IsQR B w z x y n) : ∃ s1 p1 l1 c1 s2 p2 l2 c2, z = .agg #[.bool s1, .slice p1 l1 c1, .bool s2, .slice p2 l2 c2] ∧ IsI B w (.agg #[.bool s1, .slice p1 l1 c1]) x n ∧ IsI B w (.agg #[.bool s2, .slice p2 l2 c2]) y n := by
 obtain ⟨s1, v1, s2, v2, rfl, h1, h2⟩ := h; obtain ⟨_, t1, _, ⟨p1, c1, rfl, _⟩, _⟩ := h1.parts; obtain ⟨_, t2, _, ⟨p2, c2, rfl, _⟩, _⟩ := h2.parts; exact ⟨s1, p1, _, c1, s2, p2, _, c2, rfl, h1, h2⟩
set_option maxRecDepth 100000 in
set_option maxHeartbeats 2000000 in
theorem form_any (B : Nat) (z : Value) (x y : Int) (n : Nat) (w : World) (hBw : B ≤ w.heap.size) (h : IsQR B w z x y n) (hn : n ≤ 600) (hSP : SP w) (hLT : LT w) :
 Calls Tryz.prog 110 #[z] w fun e w' => ∃ r, e = .returned r ∧ FormOf x y r ∧ Up w w' := by
 have HR := Hd h; obtain ⟨s1, p1, l1, c1, s2, p2, l2, c2, rfl, h1, h2⟩ := h.shape; have HSP := Hd hSP; have HLT := Hd hLT; have HBW := Hd hBw; have H1 := Hd h1; have H2 := Hd h2; clear h hSP hLT hBw h1 h2; obtain ⟨W0, hW0⟩ := exW ((w.alloc (.cells #[.bool s1, .slice p1 l1 c1, .bool s2, .slice p2 l2 c2] 64)).alloc (.cells #[.string ⟨#[]⟩, .bool false, .string ⟨#[]⟩] 120)); have HW0 := Hd hW0; have HB0 : Hid (Up w W0) := by
  unfold Hid
  rw [← hW0]; exact below_al (below_alloc _ _) _
 have hx1 : Bx W0 w.heap.size [.bool s1, .slice p1 l1 c1, .bool s2, .slice p2 l2 c2] := by rw [← hW0]; exact (bx_new w _ _).alloc _
 have hx2 : Bx W0 (w.heap.size + 1) [.string ⟨#[]⟩, .bool false, .string ⟨#[]⟩] := by
  rw [← hW0]; have h := bx_new (w.alloc (.cells #[.bool s1, .slice p1 l1 c1, .bool s2, .slice p2 l2 c2] 64)) [.string ⟨#[]⟩, .bool false, .string ⟨#[]⟩] 120; rw [World.size_alloc] at h; exact h
 have HX : Hid (∀ W, Up W0 W → Bx W w.heap.size [.bool s1, .slice p1 l1 c1, .bool s2, .slice p2 l2 c2] ∧ Bx W (w.heap.size + 1) [.string ⟨#[]⟩, .bool false, .string ⟨#[]⟩]) := fun W hW => ⟨hx1.below hx1.lt hW, hx2.below hx2.lt hW⟩; clear hW0; obtain ⟨k0, k1, k2, k3⟩ := hx1.c4; clear hx1 hx2
 go_enter Tryz.func110, Tryz.ntmps110
 go_upto_region 1 with fail
 rw [HW0.o]
 go_wp2_with fail
 refine (isWhole_any B _ x y n _ (by have := HBW.o; have := HB0.o.size; omega) (HR.o.below HB0.o) (HSP.o.below HB0.o)).mono ?_; rintro e w1 ⟨rfl, hb1⟩; have HB1 := Hd hb1; have hB1 := HB0.o.trans (hb1.mono HB0.o.size); have HBB := Hd hB1; obtain ⟨hy1, hy2⟩ := HX.o w1 hb1; clear k0 k1 k2 k3; obtain ⟨k0, k1, k2, k3⟩ := hy1.c4; clear hb1 hB1 hy1 hy2
 by_cases hy : y = 1
 ·have hd : decide (y = 1) = true := decide_eq_true hy; have HY := Hd hy; rw [hd]; clear hd hy
  go_wp2_with fail
  refine (textI_any B _ x n _ (H1.o.below HBB.o) hn (HLT.o.below HBB.o)).mono ?_; rintro e w2 ⟨u, rfl, hu, hb2⟩; have HU := Hd hu; have HB2 := Hd (HB1.o.trans (hb2.mono HB1.o.size)); have hbw := (HX.o w2 HB2.o).2; obtain ⟨r0, r1, r2⟩ := hbw.c3; obtain ⟨f0, f1, f2⟩ := hbw.f3; clear hu hb2 hbw
  go_wp2
  have hbw := (HX.o w2 HB2.o).2; have hZ : Bx (((w2.setCell ⟨w.heap.size + 1, 0, none⟩ (.string u)).setCell ⟨w.heap.size + 1, 1, none⟩ (.bool false)).setCell ⟨w.heap.size + 1, 2, none⟩ (.string ⟨#[]⟩)) (w.heap.size + 1) [.string u, .bool false, .string ⟨#[]⟩] := ((hbw.set 0 _).set 1 _).set 2 _; have hE := belowSet3 (HB0.o.trans (HB2.o.mono HB0.o.size)) (w.heap.size + 1) (Nat.le_succ _) (.string u) (.bool false) (.string ⟨#[]⟩); generalize ((w2.setCell ⟨w.heap.size + 1, 0, none⟩ (.string u)).setCell ⟨w.heap.size + 1, 1, none⟩ (.bool false)).setCell ⟨w.heap.size + 1, 2, none⟩ (.string ⟨#[]⟩) = WE at *; obtain ⟨m0, m1, m2⟩ := hZ.c3; refine bodyPost_ret (v := .agg #[.string u, .bool false, .string ⟨#[]⟩]) ?_ rfl ⟨_, rfl, ⟨u, _, _, rfl, HU.o, by rw [if_pos HY.o]; exact ⟨rfl, rfl⟩⟩, hE⟩; simp [results, Tryz.results110, go_sem, m0, m1, m2]
 have hd : decide (y = 1) = false := decide_eq_false hy; have HY := Hd hy; rw [hd]; clear hd hy
 go_wp2_with fail
 go_region_with (first
  | (go_at_call_of 41 (Value.slice p1 l1 c1)
     refine (textI_any B _ x n _ (H1.o.below (HBB.o.trans ((Below.refl _ w1).drew.mono HBB.o.size))) hn (HLT.o.below (HBB.o.trans ((Below.refl _ w1).drew.mono HBB.o.size)))).mono ?_; rintro e w2 ⟨u, rfl, hu, hb2⟩; have HU := Hd hu; have HB2 : Hid (Up w1 w2) := (Below.refl _ w1).drew.trans hb2; have hbx := (HX.o w2 (HB1.o.trans (HB2.o.mono HB1.o.size))).1; have j2 := hbx.cell 2; have j3 := hbx.cell 3; simp only [List.getElem?_cons_zero, List.getElem?_cons_succ] at j2 j3; clear hu hb2 hbx)
  | (go_at_call_of 41 (Value.slice p2 l2 c2)
     refine (textI_any B _ y n _ (H2.o.below (HBB.o.trans (HB2.o.mono HBB.o.size))) hn (HLT.o.below (HBB.o.trans (HB2.o.mono HBB.o.size)))).mono ?_; rintro e w3 ⟨v, rfl, hv, hb3⟩; have HV := Hd hv; have HB3 : Hid (Up W0 w3) := HB1.o.trans ((HB2.o.trans (hb3.mono HB2.o.size)).mono HB1.o.size); have hbw := (HX.o w3 HB3.o).2; obtain ⟨r0, r1, r2⟩ := hbw.c3; obtain ⟨f0, f1, f2⟩ := hbw.f3; clear hv hb3 hbw))
 all_goals
  try simp only [List.getElem_toArray, List.getElem_cons_succ, List.getElem_cons_zero, Act.put, List.setIfInBounds_toArray, List.set_cons_succ, List.set_cons_zero]
  go_wp2
  have hbw := (HX.o w3 HB3.o).2; have hZ : Bx (((w3.setCell ⟨w.heap.size + 1, 0, none⟩ (.string u)).setCell ⟨w.heap.size + 1, 1, none⟩ (.bool true)).setCell ⟨w.heap.size + 1, 2, none⟩ (.string v)) (w.heap.size + 1) [.string u, .bool true, .string v] := ((hbw.set 0 _).set 1 _).set 2 _; have hE := belowSet3 (HB0.o.trans (HB3.o.mono HB0.o.size)) (w.heap.size + 1) (Nat.le_succ _) (.string u) (.bool true) (.string v); generalize ((w3.setCell ⟨w.heap.size + 1, 0, none⟩ (.string u)).setCell ⟨w.heap.size + 1, 1, none⟩ (.bool true)).setCell ⟨w.heap.size + 1, 2, none⟩ (.string v) = WE at *; obtain ⟨m0, m1, m2⟩ := hZ.c3; refine bodyPost_ret (v := .agg #[.string u, .bool true, .string v]) ?_ rfl ⟨_, rfl, ⟨u, _, _, rfl, HU.o, by rw [if_neg HY.o]; exact ⟨rfl, HV.o⟩⟩, hE⟩; simp [results, Tryz.results110, go_sem, m0, m1, m2]
theorem eqForm (a c a' c' : ByteArray) (b b' : Bool) (w : World) : (Op.equalIn 10000 120 (.agg #[.string a, .bool b, .string c]) (.agg #[.string a', .bool b', .string c'])).run Tryz.prog w = .ok (a.toList == a'.toList && b == b' && c.toList == c'.toList) w := by
 have u3 := Tryz.underlying9; have u4 := Tryz.underlying4; have a3 := Tryz.isAgg9; have a4 := Tryz.isAgg4; have z3 := Tryz.sizeOf9; have z4 := Tryz.sizeOf4; have hS : Tryz.prog.underlying 120 = some (.struct (Tryz.prog.fieldsOf 120)) := by kernel_rfl
 rw [show (10000 : Nat) = 9999 + 1 from rfl, run_equalIn_agg w 9999 120 _ _ hS (by kernel_rfl)]; simp only [Program.fieldsOf, Tryz.underlying120]
 go_simp
 by_cases h1 : a.toList = a'.toList <;> by_cases h2 : b = b' <;> by_cases h3 : c.toList = c'.toList <;> simp [h1, h2, h3]
theorem toList_inj {a b : ByteArray} : (a.toList == b.toList) = decide (a = b) := by
 by_cases h : a = b
 ·subst h; simp
 have : a.toList ≠ b.toList := fun e => h (by
  rw [ByteArray.toList_eq, ByteArray.toList_eq] at e; exact ByteArray.ext (Array.toList_inj.1 e))
 simp [h, this]
def RatV (s : ByteArray) (k : Option Nat) (x y : Int) : Prop :=
 match k with
 | none => isIntB s = true ∧ x = numT s ∧ y = 1
 | some i => (isIntB (cutP s (some i)) = true ∧ isIntB (cutQ s (some i)) = true) ∧ (numT (cutQ s (some i)) ≠ 0 ∧ cutP s (some i) ≠ strB [48] ∧ cutQ s (some i) ≠ strB [49] ∧ isNeg (cutQ s (some i)) = false ∧ Int.gcd (numT (cutP s (some i))) (numT (cutQ s (some i))) = 1) ∧
  x = numT (cutP s (some i)) ∧ y = numT (cutQ s (some i))
def IsRatB (s : ByteArray) (b : Bool) : Prop := ∃ k, IsCut s k ∧ (b = true ↔ ∃ x y, RatV s k x y)
set_option maxRecDepth 100000 in
set_option maxHeartbeats 1000000 in
theorem wholeRational_any (s1 : Bool) (p1 : Option Addr) (l1 c1 : Nat) (w : World) :
 Calls Tryz.prog 117 #[.agg #[.bool s1, .slice p1 l1 c1]] w fun e w' => ∃ s2 p2 l2 c2, e = .returned (.agg #[.bool s1, .slice p1 l1 c1, .bool s2, .slice p2 l2 c2]) ∧ IsI w.heap.size w' (.agg #[.bool s2, .slice p2 l2 c2]) 1 3 ∧ Up w w' := by
 obtain ⟨W0, hW0⟩ := exW ((w.alloc (.cells #[.bool s1, .slice p1 l1 c1] 46)).alloc (.cells #[.bool false, .slice none 0 0, .bool false, .slice none 0 0] 64)); have HW0 := Hd hW0; have HB0 : Hid (Up w W0) := by
  unfold Hid
  rw [← hW0]; exact below_al (below_alloc _ _) _
 have hx1 : Bx W0 w.heap.size [.bool s1, .slice p1 l1 c1] := by rw [← hW0]; exact (bx_new w _ _).alloc _
 have hx2 : Bx W0 (w.heap.size + 1) [.bool false, .slice none 0 0, .bool false, .slice none 0 0] := by
  rw [← hW0]; have h := bx_new (w.alloc (.cells #[.bool s1, .slice p1 l1 c1] 46)) [.bool false, .slice none 0 0, .bool false, .slice none 0 0] 64; rw [World.size_alloc] at h; exact h
 have HX : Hid (∀ W, Up W0 W → Bx W w.heap.size [.bool s1, .slice p1 l1 c1] ∧ Bx W (w.heap.size + 1) [.bool false, .slice none 0 0, .bool false, .slice none 0 0]) := fun W hW => ⟨hx1.below hx1.lt hW, hx2.below hx2.lt hW⟩; clear hW0; obtain ⟨k0, k1⟩ := hx1.c2; clear hx1 hx2
 go_enter Tryz.func117, Tryz.ntmps117
 go_upto_region 1 with fail
 rw [HW0.o]
 go_region_with (first
  | (go_at_call 154
     refine (wholeNumber_any 1 _ (by decide)).mono ?_; rintro e w1 ⟨z, rfl, hz, hb1⟩; have HB1 : Hid (Up W0 w1) := (Below.refl _ W0).drew.trans hb1; obtain ⟨s2, p2, l2, c2, rfl⟩ := hz.shape; have HZ := Hd hz; obtain ⟨hy1, hy2⟩ := HX.o w1 HB1.o; obtain ⟨j0, j1⟩ := hy1.c2; obtain ⟨r0, r1, r2, r3⟩ := hy2.c4; obtain ⟨f0, f1, f2, f3⟩ := hy2.f4; clear hz hb1 hy1 hy2))
 all_goals
  try simp only [List.getElem_toArray, List.getElem_cons_succ, List.getElem_cons_zero, Act.put, List.setIfInBounds_toArray, List.set_cons_succ, List.set_cons_zero]
  go_wp2
  have hbw := (HX.o w1 HB1.o).2; have hnR : NoInt w1 (w.heap.size + 1) := noInt_of hbw (by simp); have hD9 := (HZ.o.mono (B' := w.heap.size) (n' := 3) HB0.o.size leR).put4 hnR (.bool s1) (.slice p1 l1 c1) (.bool s2) (.slice p2 l2 c2); have hB9 := set4 (HB0.o.trans (HB1.o.mono HB0.o.size)) (w.heap.size + 1) (Nat.le_succ _) (.bool s1) (.slice p1 l1 c1) (.bool s2) (.slice p2 l2 c2); have hZ : Bx ((((w1.setCell ⟨w.heap.size + 1, 0, none⟩ (.bool s1)).setCell ⟨w.heap.size + 1, 1, none⟩ (.slice p1 l1 c1)).setCell ⟨w.heap.size + 1, 2, none⟩ (.bool s2)).setCell ⟨w.heap.size + 1, 3, none⟩ (.slice p2 l2 c2)) (w.heap.size + 1) [.bool s1, .slice p1 l1 c1, .bool s2, .slice p2 l2 c2] := (((hbw.set 0 _).set 1 _).set 2 _).set 3 _; generalize (((w1.setCell ⟨w.heap.size + 1, 0, none⟩ (.bool s1)).setCell ⟨w.heap.size + 1, 1, none⟩ (.slice p1 l1 c1)).setCell ⟨w.heap.size + 1, 2, none⟩ (.bool s2)).setCell ⟨w.heap.size + 1, 3, none⟩ (.slice p2 l2 c2) = W9 at *; obtain ⟨m0, m1, m2, m3⟩ := hZ.c4; refine bodyPost_ret (v := .agg #[.bool s1, .slice p1 l1 c1, .bool s2, .slice p2 l2 c2]) ?_ rfl ⟨s2, p2, l2, c2, rfl, hD9, hB9⟩; simp [results, Tryz.results117, go_sem, m0, m1, m2, m3]
def ShapeR (z : Value) : Prop := ∃ s1 p1 l1 c1 s2 p2 l2 c2, z = .agg #[.bool s1, .slice p1 l1 c1, .bool s2, .slice p2 l2 c2]
def ReadR (B : Nat) (w : World) (s : ByteArray) (k : Option Nat) (z : Value) (ok : Bool) : Prop :=
 ShapeR z ∧ (ok = true ↔ ∃ x y, RatV s k x y) ∧ (ok = true → ∃ x y, RatV s k x y ∧ IsQR B w z x y 300)
theorem IsQR.mono {B B' : Nat} {w : World} {z : Value} {x y : Int} {n n' : Nat} (h : IsQR B w z x y n) (hb : B' ≤ B) (hn : n ≤ n') : IsQR B' w z x y n' := by
 obtain ⟨s1, v1, s2, v2, e, h1, h2⟩ := h; exact ⟨s1, v1, s2, v2, e, h1.mono hb hn, h2.mono hb hn⟩
theorem IsQR.put4 {B : Nat} {W : World} {z : Value} {x y : Int} {n : Nat} (h : IsQR B W z x y n) {g : Nat} (no : NoInt W g) (u0 u1 u2 u3 : Value) : IsQR B ((((W.setCell ⟨g, 0, none⟩ u0).setCell ⟨g, 1, none⟩ u1).setCell ⟨g, 2, none⟩ u2).setCell ⟨g, 3, none⟩ u3) z x y n := by
 obtain ⟨s1, v1, s2, v2, e, h1, h2⟩ := h; exact ⟨s1, v1, s2, v2, e, h1.put4 no u0 u1 u2 u3, h2.put4 no u0 u1 u2 u3⟩
theorem readR_of (B : Nat) (W : World) (s p q u v : ByteArray) (i : Nat) (b bb ok : Bool) (z : Value) (xn xd : Int) (hP : cutP s (some i) = p ∧ cutQ s (some i) = q ∧ (some i).isSome = b) (hI : isIntB p = true ∧ isIntB q = true) (h0 : numT q ≠ 0) (hl : IsLow (numT p) (numT q) xn xd)
 (hu : IsText xn u ∧ (if xd = 1 then bb = false ∧ v = ⟨#[]⟩ else bb = true ∧ IsText xd v)) (hok : (u.toList == p.toList && bb == b && v.toList == q.toList) = ok) (hR : IsQR B W z xn xd 283) : ReadR B W s (some i) z ok := by
 obtain ⟨rfl, rfl, hb⟩ := hP; have hbt : b = true := hb.symm; subst hbt; have key : ok = true ↔ (xd ≠ 1 ∧ IsText xn (cutP s (some i)) ∧ IsText xd (cutQ s (some i))) := by
  rw [← hok, toList_inj, toList_inj]; simp only [Bool.and_eq_true, decide_eq_true_eq, beq_iff_eq]; constructor
  ·rintro ⟨⟨rfl, rfl⟩, rfl⟩
   by_cases h1 : xd = 1
   ·rw [if_pos h1] at hu; exact absurd hu.2.1 (by decide)
   rw [if_neg h1] at hu; exact ⟨h1, hu.1, hu.2.2⟩
  rintro ⟨h1, h2, h3⟩; rw [if_neg h1] at hu; exact ⟨⟨hu.1.eq h2, hu.2.1⟩, hu.2.2.eq h3⟩
 have hrf := rat_form _ _ xn xd hI.1 hI.2 h0 hl; have hV : ok = true → RatV s (some i) (numT (cutP s (some i))) (numT (cutQ s (some i))) := fun e => by
  obtain ⟨a1, a2, a3, a4⟩ := hrf.1 (key.1 e); exact ⟨hI, ⟨h0, a1, a2, a3, a4⟩, rfl, rfl⟩
 have hsh : ShapeR z := by
  obtain ⟨s1, p1, l1, c1, s2, p2, l2, c2, h, _⟩ := hR.shape; exact ⟨s1, p1, l1, c1, s2, p2, l2, c2, h⟩
 refine ⟨hsh, ⟨fun e => ⟨_, _, hV e⟩, ?_⟩, fun e => ?_⟩
 ·rintro ⟨x, y, _, ⟨_, a1, a2, a3, a4⟩, _, _⟩; exact key.2 (hrf.2 ⟨a1, a2, a3, a4⟩)
 obtain ⟨_, t1, t2⟩ := key.1 e; have e1 := text_inj t1 (text_back _ hI.1) (text_ne _ hI.1); have e2 := text_inj t2 (text_back _ hI.2) (text_ne _ hI.2); refine ⟨_, _, hV e, ?_⟩; rw [← e1, ← e2]; exact hR.mono leR (by omega)
def TextR (x y : Int) (u : ByteArray) : Prop :=
 if y = 1 then IsText x u else ∃ p q, IsText x p ∧ IsText y q ∧ u = if p.size = 0 ∨ q.size = 0 then ⟨#[]⟩ else p ++ ⟨#[47]⟩ ++ q
theorem text_size {x : Int} {u : ByteArray} (h : IsText x u) : u.size ≤ 2501 := by
 obtain ⟨neg, t, _, _, _, rfl⟩ := h; unfold textT
 split
 ·rw [strB_size]; decide
 unfold textS
 split
 ·rw [strB_size]; exact Nat.zero_le _
 split
 ·rw [strB_size, List.length_cons]; omega
 rw [strB_size]; omega
theorem empty_iff (u : ByteArray) : u.toList.isEmpty = decide (u.size = 0) := by
 rw [ByteArray.toList_eq]; have : u.data.toList.length = u.size := by simp
 cases h : u.data.toList with
 | nil => rw [h] at this; simp at this; simp [← this]
 | cons c l =>
   rw [h] at this; have h2 : u.size ≠ 0 := by rw [← this]; simp
   simp [h2]
set_option maxRecDepth 100000 in
set_option maxHeartbeats 1000000 in
theorem textR_any (B : Nat) (z : Value) (x y : Int) (n : Nat) (w : World) (hBw : B ≤ w.heap.size) (h : IsQR B w z x y n) (hn : n ≤ 600) (hSP : SP w) (hLT : LT w) :
 Calls Tryz.prog 56 #[z] w fun e w' => ∃ u, e = .returned (.string u) ∧ TextR x y u ∧ Up w w' := by
 have HR := Hd h; obtain ⟨s1, p1, l1, c1, s2, p2, l2, c2, rfl, _, _⟩ := h.shape; have HSP := Hd hSP; have HLT := Hd hLT; have HBW := Hd hBw; clear h hSP hLT hBw; obtain ⟨W0, hW0⟩ := exW (w.alloc (.cells #[.bool s1, .slice p1 l1 c1, .bool s2, .slice p2 l2 c2] 64)); have HW0 := Hd hW0; have HB0 : Hid (Up w W0) := by unfold Hid; rw [← hW0]; exact below_alloc _ _
 have hx1 : Bx W0 w.heap.size [.bool s1, .slice p1 l1 c1, .bool s2, .slice p2 l2 c2] := by rw [← hW0]; exact bx_new w _ _
 obtain ⟨k0, k1, k2, k3⟩ := hx1.c4; clear hW0 hx1
 go_enter Tryz.func56, Tryz.ntmps56
 go_wp2_with fail
 rw [HW0.o]; refine (form_any B _ x y n W0 (by have := HBW.o; have := HB0.o.size; omega) (HR.o.below HB0.o) hn (HSP.o.below HB0.o) (HLT.o.below HB0.o)).mono ?_; rintro e w1 ⟨r, rfl, hfo, hb1⟩; obtain ⟨u, v, bb, rfl, hu, hv⟩ := hfo; have HUV : Hid (IsText x u ∧ (if y = 1 then bb = false ∧ v = ⟨#[]⟩ else bb = true ∧ IsText y v)) := ⟨hu, hv⟩; have HBW1 := Hd (HB0.o.trans (hb1.mono HB0.o.size)); obtain ⟨W2, hW2⟩ := exW (w1.alloc (.cells #[.string u, .bool bb, .string v] 120)); have HW2 := Hd hW2; have HB2 : Hid (Up w W2) := by
  unfold Hid
  rw [← hW2]; exact HBW1.o.alloc HBW1.o.size _
 have hx2 : Bx W2 w1.heap.size [.string u, .bool bb, .string v] := by rw [← hW2]; exact bx_new w1 _ _
 obtain ⟨g0, g1, g2⟩ := hx2.c3; clear hW2 hx2 hu hv hb1 k0 k1 k2 k3
 cases bb
 ·have HF : Hid (TextR x y u) := by
   unfold Hid
   unfold TextR
   by_cases h1 : y = 1
   ·rw [if_pos h1]; exact HUV.o.1
   have h2 := HUV.o.2; rw [if_neg h1] at h2; exact absurd h2.1 (by decide)
  go_upto_region 2 with fail
  rw [HW2.o]
  go_wp2
  go_ret
  exact ⟨_, rfl, HF.o, HB2.o⟩
 have HF : Hid (∀ t, t = (if u.size = 0 ∨ v.size = 0 then ⟨#[]⟩ else u ++ ⟨#[47]⟩ ++ v) → TextR x y t) := fun t ht => by
  show TextR x y t
  unfold TextR
  by_cases h1 : y = 1
  ·have h2 := HUV.o.2; rw [if_pos h1] at h2; exact absurd h2.1 (by decide)
  have h2 := HUV.o.2; rw [if_neg h1] at h2; rw [if_neg h1]; exact ⟨u, v, HUV.o.1, h2.2, ht⟩
 have hus : u.size ≤ 2501 := text_size HUV.o.1; have hvs : v.size ≤ 2501 := by
  by_cases h1 : y = 1
  ·have h2 := HUV.o.2; rw [if_pos h1] at h2; rw [h2.2]; exact Nat.zero_le _
  have h2 := HUV.o.2; rw [if_neg h1] at h2; exact text_size h2.2
 go_upto_region 2 with fail
 rw [HW2.o]
 by_cases hu0 : u.size = 0
 ·have z : u.toList.isEmpty = true := by rw [empty_iff]; exact decide_eq_true hu0
  have HT := Hd (HF.o ⟨#[]⟩ (by rw [if_pos (.inl hu0)])); clear hu0
  go_wp2
  go_ret
  exact ⟨_, rfl, HT.o, HB2.o⟩
 have z : u.toList.isEmpty = false := by rw [empty_iff]; exact decide_eq_false hu0
 by_cases hv0 : v.size = 0
 ·have z2 : v.toList.isEmpty = true := by rw [empty_iff]; exact decide_eq_true hv0
  have HT := Hd (HF.o ⟨#[]⟩ (by rw [if_pos (.inr hv0)])); clear hv0
  go_wp2
  go_ret
  exact ⟨_, rfl, HT.o, HB2.o⟩
 have z2 : v.toList.isEmpty = false := by rw [empty_iff]; exact decide_eq_false hv0
 have HT := Hd (HF.o _ (if_neg (fun h => h.elim hu0 hv0)).symm); have e47 : (⟨#[47]⟩ : ByteArray).size = 1 := rfl; have hc1 : (u ++ (⟨#[47]⟩ : ByteArray)).size ≤ 3000 := by rw [ByteArray.size_append]; omega
 have hc2 : (u ++ (⟨#[47]⟩ : ByteArray) ++ v).size ≤ 6000 := by rw [ByteArray.size_append]; omega
 go_wp2
 go_ret
 exact ⟨_, rfl, HT.o, HB2.o⟩
def IsResO (s t u : ByteArray) : Prop := if isIntB s = true ∧ isIntB t = true ∧ numT t ≠ 0 then ∃ p q, IsLow (numT s) (numT t) p q ∧ TextR p q u else u = ⟨#[]⟩
theorem TextR.eq {x y : Int} {u v : ByteArray} (h : TextR x y u) (h' : TextR x y v) : u = v := by
 unfold TextR at h h'
 split at h
 ·rename_i hc; rw [if_pos hc] at h'; exact h.eq h'
 rename_i hc; rw [if_neg hc] at h'; obtain ⟨p, q, h1, h2, rfl⟩ := h; obtain ⟨p', q', h1', h2', rfl⟩ := h'; rw [h1.eq h1', h2.eq h2']
theorem IsResO.eq {s t u v : ByteArray} (h : IsResO s t u) (h' : IsResO s t v) : u = v := by
 unfold IsResO at h h'
 split at h
 ·rename_i hc; rw [if_pos hc] at h'; obtain ⟨p, q, h1, h2⟩ := h; obtain ⟨p', q', h1', h2'⟩ := h'; obtain ⟨rfl, rfl⟩ := isLow_unique h1 h1'; exact h2.eq h2'
 rename_i hc; rw [if_neg hc] at h'; rw [h, h']
end Go.Proofs.YtfmpapcfhoomkaaGreatDoor
