import Derived.Test.YtpjnglcojamfmaaDoorRatB
import Derived.Laws.StructEq
import Derived.Laws.Tables
namespace Go.Proofs.YtpjnglcojamfmaaDoor
open Go.ChangeShapes Go.WideShapes Go.ChangeAt Go.RowKit
/-- What form answers. -/
def FormOf (x y : Int) (z : Value) : Prop := ∃ u v b, z = .agg #[.string u, .bool b, .string v] ∧ IsText x u ∧ (if y = 1 then b = false ∧ v = ⟨#[]⟩ else b = true ∧ IsText y v)
theorem IsQR.shape {B : Nat} {w : World} {z : Value} {x y : Int} {n : Nat} (h : IsQR B w z x y n) : ∃ s1 p1 l1 c1 s2 p2 l2 c2, z = .agg #[.bool s1, .slice p1 l1 c1, .bool s2, .slice p2 l2 c2] ∧ IsI B w (.agg #[.bool s1, .slice p1 l1 c1]) x n ∧ IsI B w (.agg #[.bool s2, .slice p2 l2 c2]) y n := by
  obtain ⟨s1, v1, s2, v2, rfl, h1, h2⟩ := h
  obtain ⟨_, t1, _, ⟨p1, c1, rfl, _⟩, _⟩ := h1.parts
  obtain ⟨_, t2, _, ⟨p2, c2, rfl, _⟩, _⟩ := h2.parts
  exact ⟨s1, p1, _, c1, s2, p2, _, c2, rfl, h1, h2⟩
set_option maxRecDepth 100000 in
set_option maxHeartbeats 2000000 in
theorem form_any (B : Nat) (z : Value) (x y : Int) (n : Nat) (w : World) (hBw : B ≤ w.heap.size) (h : IsQR B w z x y n) (hn : n ≤ 600) (hSP : SP w) (hLT : LT w) :
    Calls Tryd.prog 28 #[z] w fun e w' => ∃ r, e = .returned r ∧ FormOf x y r ∧ Below w.heap.size w w' := by
  have HR := hidG h
  obtain ⟨s1, p1, l1, c1, s2, p2, l2, c2, rfl, h1, h2⟩ := h.shape
  have HSP := hidG hSP
  have HLT := hidG hLT
  have HBW := hidG hBw
  have H1 := hidG h1
  have H2 := hidG h2
  clear h hSP hLT hBw h1 h2
  obtain ⟨W0, hW0⟩ : ∃ W0, (w.alloc (.cells #[.bool s1, .slice p1 l1 c1, .bool s2, .slice p2 l2 c2] 35)).alloc (.cells #[.string ⟨#[]⟩, .bool false, .string ⟨#[]⟩] 53) = W0 := ⟨_, rfl⟩
  have HW0 := hidG hW0
  have HB0 : Hid (Below w.heap.size w W0) := by
    show Below w.heap.size w W0
    rw [← hW0]; exact below_al (below_alloc _ _) _
  have hx1 : Bx W0 w.heap.size [.bool s1, .slice p1 l1 c1, .bool s2, .slice p2 l2 c2] := by rw [← hW0]; exact (bx_new w _ _).alloc _
  have hx2 : Bx W0 (w.heap.size + 1) [.string ⟨#[]⟩, .bool false, .string ⟨#[]⟩] := by
    rw [← hW0]
    have h := bx_new (w.alloc (.cells #[.bool s1, .slice p1 l1 c1, .bool s2, .slice p2 l2 c2] 35)) [.string ⟨#[]⟩, .bool false, .string ⟨#[]⟩] 53
    rw [World.size_alloc] at h
    exact h
  have HX : Hid (∀ W, Below W0.heap.size W0 W → Bx W w.heap.size [.bool s1, .slice p1 l1 c1, .bool s2, .slice p2 l2 c2] ∧ Bx W (w.heap.size + 1) [.string ⟨#[]⟩, .bool false, .string ⟨#[]⟩]) := fun W hW => ⟨hx1.below hx1.lt hW, hx2.below hx2.lt hW⟩
  clear hW0
  have k0 := hx1.cell 0
  have k1 := hx1.cell 1
  have k2 := hx1.cell 2
  have k3 := hx1.cell 3
  simp only [List.getElem?_cons_zero, List.getElem?_cons_succ] at k0 k1 k2 k3
  clear hx1 hx2
  go_enter Tryd.func28, Tryd.ntmps28
  go_upto_region 1 with fail
  rw [HW0.out]
  go_wp2_with fail
  refine (isWhole_any B _ x y n _ (by have := HBW.out; have := HB0.out.size; omega) (HR.out.below HB0.out) (HSP.out.below HB0.out)).mono ?_
  rintro e w1 ⟨rfl, hb1⟩
  have HB1 := hidG hb1
  have hB1 := HB0.out.trans (hb1.mono HB0.out.size)
  have HBB := hidG hB1
  obtain ⟨hy1, hy2⟩ := HX.out w1 hb1
  clear k0 k1 k2 k3
  have k0 := hy1.cell 0
  have k1 := hy1.cell 1
  have k2 := hy1.cell 2
  have k3 := hy1.cell 3
  simp only [List.getElem?_cons_zero, List.getElem?_cons_succ] at k0 k1 k2 k3
  clear hb1 hB1 hy1 hy2
  by_cases hy : y = 1
  · have hd : decide (y = 1) = true := decide_eq_true hy
    have HY := hidG hy
    rw [hd]
    clear hd hy
    go_wp2_with fail
    refine (textI_any B _ x n _ (H1.out.below HBB.out) hn (HLT.out.below HBB.out)).mono ?_
    rintro e w2 ⟨u, rfl, hu, hb2⟩
    have HU := hidG hu
    have HB2 := hidG (HB1.out.trans (hb2.mono HB1.out.size))
    have hbw := (HX.out w2 HB2.out).2
    have r0 := hbw.cell 0
    have r1 := hbw.cell 1
    have r2 := hbw.cell 2
    simp only [List.getElem?_cons_zero, List.getElem?_cons_succ] at r0 r1 r2
    have f0 := hbw.frozen 0
    have f1 := hbw.frozen 1
    have f2 := hbw.frozen 2
    clear hu hb2 hbw
    go_wp2
    have hbw := (HX.out w2 HB2.out).2
    have hZ : Bx (((w2.setCell ⟨w.heap.size + 1, 0, none⟩ (.string u)).setCell ⟨w.heap.size + 1, 1, none⟩ (.bool false)).setCell ⟨w.heap.size + 1, 2, none⟩ (.string ⟨#[]⟩)) (w.heap.size + 1) [.string u, .bool false, .string ⟨#[]⟩] := ((hbw.set 0 _).set 1 _).set 2 _
    have hE := belowSet3 (HB0.out.trans (HB2.out.mono HB0.out.size)) (w.heap.size + 1) (Nat.le_succ _) (.string u) (.bool false) (.string ⟨#[]⟩)
    generalize ((w2.setCell ⟨w.heap.size + 1, 0, none⟩ (.string u)).setCell ⟨w.heap.size + 1, 1, none⟩ (.bool false)).setCell ⟨w.heap.size + 1, 2, none⟩ (.string ⟨#[]⟩) = WE at *
    have m0 := hZ.cell 0
    have m1 := hZ.cell 1
    have m2 := hZ.cell 2
    simp only [List.getElem?_cons_zero, List.getElem?_cons_succ] at m0 m1 m2
    refine bodyPost_ret (v := .agg #[.string u, .bool false, .string ⟨#[]⟩]) ?_ rfl ⟨_, rfl, ⟨u, _, _, rfl, HU.out, by rw [if_pos HY.out]; exact ⟨rfl, rfl⟩⟩, hE⟩
    simp [results, Tryd.results28, go_sem, m0, m1, m2]
  · have hd : decide (y = 1) = false := decide_eq_false hy
    have HY := hidG hy
    rw [hd]
    clear hd hy
    go_wp2_with fail
    go_region_with (first
      | (go_at_call_of 46 (Value.slice p1 l1 c1)
         refine (textI_any B _ x n _ (H1.out.below (HBB.out.trans ((Below.refl _ w1).drew.mono HBB.out.size))) hn (HLT.out.below (HBB.out.trans ((Below.refl _ w1).drew.mono HBB.out.size)))).mono ?_
         rintro e w2 ⟨u, rfl, hu, hb2⟩
         have HU := hidG hu
         have HB2 : Hid (Below w1.heap.size w1 w2) := (Below.refl _ w1).drew.trans hb2
         have hbx := (HX.out w2 (HB1.out.trans (HB2.out.mono HB1.out.size))).1
         have j2 := hbx.cell 2
         have j3 := hbx.cell 3
         simp only [List.getElem?_cons_zero, List.getElem?_cons_succ] at j2 j3
         clear hu hb2 hbx)
      | (go_at_call_of 46 (Value.slice p2 l2 c2)
         refine (textI_any B _ y n _ (H2.out.below (HBB.out.trans (HB2.out.mono HBB.out.size))) hn (HLT.out.below (HBB.out.trans (HB2.out.mono HBB.out.size)))).mono ?_
         rintro e w3 ⟨v, rfl, hv, hb3⟩
         have HV := hidG hv
         have HB3 : Hid (Below W0.heap.size W0 w3) := HB1.out.trans ((HB2.out.trans (hb3.mono HB2.out.size)).mono HB1.out.size)
         have hbw := (HX.out w3 HB3.out).2
         have r0 := hbw.cell 0
         have r1 := hbw.cell 1
         have r2 := hbw.cell 2
         simp only [List.getElem?_cons_zero, List.getElem?_cons_succ] at r0 r1 r2
         have f0 := hbw.frozen 0
         have f1 := hbw.frozen 1
         have f2 := hbw.frozen 2
         clear hv hb3 hbw))
    all_goals
      try simp only [List.getElem_toArray, List.getElem_cons_succ, List.getElem_cons_zero, Act.put, List.setIfInBounds_toArray, List.set_cons_succ, List.set_cons_zero]
      go_wp2
      have hbw := (HX.out w3 HB3.out).2
      have hZ : Bx (((w3.setCell ⟨w.heap.size + 1, 0, none⟩ (.string u)).setCell ⟨w.heap.size + 1, 1, none⟩ (.bool true)).setCell ⟨w.heap.size + 1, 2, none⟩ (.string v)) (w.heap.size + 1) [.string u, .bool true, .string v] := ((hbw.set 0 _).set 1 _).set 2 _
      have hE := belowSet3 (HB0.out.trans (HB3.out.mono HB0.out.size)) (w.heap.size + 1) (Nat.le_succ _) (.string u) (.bool true) (.string v)
      generalize ((w3.setCell ⟨w.heap.size + 1, 0, none⟩ (.string u)).setCell ⟨w.heap.size + 1, 1, none⟩ (.bool true)).setCell ⟨w.heap.size + 1, 2, none⟩ (.string v) = WE at *
      have m0 := hZ.cell 0
      have m1 := hZ.cell 1
      have m2 := hZ.cell 2
      simp only [List.getElem?_cons_zero, List.getElem?_cons_succ] at m0 m1 m2
      refine bodyPost_ret (v := .agg #[.string u, .bool true, .string v]) ?_ rfl ⟨_, rfl, ⟨u, _, _, rfl, HU.out, by rw [if_neg HY.out]; exact ⟨rfl, HV.out⟩⟩, hE⟩
      simp [results, Tryd.results28, go_sem, m0, m1, m2]
end Go.Proofs.YtpjnglcojamfmaaDoor
namespace Go.Proofs.YtpjnglcojamfmaaDoor
open Go.ChangeShapes Go.WideShapes Go.ChangeAt Go.RowKit
theorem eqForm (a c a' c' : ByteArray) (b b' : Bool) (w : World) : (Op.equalIn 10000 53 (.agg #[.string a, .bool b, .string c]) (.agg #[.string a', .bool b', .string c'])).run Tryd.prog w = .ok (a.toList == a'.toList && b == b' && c.toList == c'.toList) w := by
  have u3 := Tryd.underlying9
  have u4 := Tryd.underlying4
  have a3 := Tryd.isAgg9
  have a4 := Tryd.isAgg4
  have z3 := Tryd.sizeOf9
  have z4 := Tryd.sizeOf4
  have hS : Tryd.prog.underlying 53 = some (.struct (Tryd.prog.fieldsOf 53)) := by kernel_rfl
  rw [show (10000 : Nat) = 9999 + 1 from rfl, run_equalIn_agg w 9999 53 _ _ hS (by kernel_rfl)]
  simp only [Program.fieldsOf, Tryd.underlying53]
  go_simp
  by_cases h1 : a.toList = a'.toList <;> by_cases h2 : b = b' <;> by_cases h3 : c.toList = c'.toList <;> simp [h1, h2, h3]
theorem toList_inj {a b : ByteArray} : (a.toList == b.toList) = decide (a = b) := by
  by_cases h : a = b
  · subst h; simp
  · have : a.toList ≠ b.toList := fun e => h (by
      rw [ByteArray.toList_eq, ByteArray.toList_eq] at e
      exact ByteArray.ext (Array.toList_inj.1 e))
    simp [h, this]
/-- The number of a rat text: x over y. -/
def RatV (s : ByteArray) (k : Option Nat) (x y : Int) : Prop :=
  match k with
  | none => isIntB s = true ∧ x = numT s ∧ y = 1
  | some i => (isIntB (cutP s (some i)) = true ∧ isIntB (cutQ s (some i)) = true) ∧ (numT (cutQ s (some i)) ≠ 0 ∧ cutP s (some i) ≠ strB [48] ∧ cutQ s (some i) ≠ strB [49] ∧ isNeg (cutQ s (some i)) = false ∧ Int.gcd (numT (cutP s (some i))) (numT (cutQ s (some i))) = 1) ∧
      x = numT (cutP s (some i)) ∧ y = numT (cutQ s (some i))
/-- Whether a text is a rat text. -/
def IsRatB (s : ByteArray) (b : Bool) : Prop := ∃ k, IsCut s k ∧ (b = true ↔ ∃ x y, RatV s k x y)
theorem isRatB_unique {s : ByteArray} {b c : Bool} (h : IsRatB s b) (h' : IsRatB s c) : b = c := by
  obtain ⟨k, hk, e⟩ := h
  obtain ⟨m, hm, e'⟩ := h'
  obtain rfl := isCut_unique hk hm
  cases b <;> cases c <;> simp_all
end Go.Proofs.YtpjnglcojamfmaaDoor
namespace Go.Proofs.YtpjnglcojamfmaaDoor
open Go.ChangeShapes Go.WideShapes Go.ChangeAt Go.RowKit
set_option maxRecDepth 100000 in
set_option maxHeartbeats 1000000 in
theorem wholeRational_any (s1 : Bool) (p1 : Option Addr) (l1 c1 : Nat) (w : World) :
    Calls Tryd.prog 27 #[.agg #[.bool s1, .slice p1 l1 c1]] w fun e w' => ∃ s2 p2 l2 c2, e = .returned (.agg #[.bool s1, .slice p1 l1 c1, .bool s2, .slice p2 l2 c2]) ∧ IsI w.heap.size w' (.agg #[.bool s2, .slice p2 l2 c2]) 1 3 ∧ Below w.heap.size w w' := by
  obtain ⟨W0, hW0⟩ : ∃ W0, (w.alloc (.cells #[.bool s1, .slice p1 l1 c1] 33)).alloc (.cells #[.bool false, .slice none 0 0, .bool false, .slice none 0 0] 35) = W0 := ⟨_, rfl⟩
  have HW0 := hidG hW0
  have HB0 : Hid (Below w.heap.size w W0) := by
    show Below w.heap.size w W0
    rw [← hW0]; exact below_al (below_alloc _ _) _
  have hx1 : Bx W0 w.heap.size [.bool s1, .slice p1 l1 c1] := by rw [← hW0]; exact (bx_new w _ _).alloc _
  have hx2 : Bx W0 (w.heap.size + 1) [.bool false, .slice none 0 0, .bool false, .slice none 0 0] := by
    rw [← hW0]
    have h := bx_new (w.alloc (.cells #[.bool s1, .slice p1 l1 c1] 33)) [.bool false, .slice none 0 0, .bool false, .slice none 0 0] 35
    rw [World.size_alloc] at h
    exact h
  have HX : Hid (∀ W, Below W0.heap.size W0 W → Bx W w.heap.size [.bool s1, .slice p1 l1 c1] ∧ Bx W (w.heap.size + 1) [.bool false, .slice none 0 0, .bool false, .slice none 0 0]) := fun W hW => ⟨hx1.below hx1.lt hW, hx2.below hx2.lt hW⟩
  clear hW0
  have k0 := hx1.cell 0
  have k1 := hx1.cell 1
  simp only [List.getElem?_cons_zero, List.getElem?_cons_succ] at k0 k1
  clear hx1 hx2
  go_enter Tryd.func27, Tryd.ntmps27
  go_upto_region 1 with fail
  rw [HW0.out]
  go_region_with (first
    | (go_at_call 44
       refine (wholeNumber_any 1 _ (by decide)).mono ?_
       rintro e w1 ⟨z, rfl, hz, hb1⟩
       have HB1 : Hid (Below W0.heap.size W0 w1) := (Below.refl _ W0).drew.trans hb1
       obtain ⟨s2, p2, l2, c2, rfl⟩ := hz.shape
       have HZ : Hid (IsI W0.heap.size w1 (.agg #[.bool s2, .slice p2 l2 c2]) 1 3) := hz
       obtain ⟨hy1, hy2⟩ := HX.out w1 HB1.out
       have j0 := hy1.cell 0
       have j1 := hy1.cell 1
       have r0 := hy2.cell 0
       have r1 := hy2.cell 1
       have r2 := hy2.cell 2
       have r3 := hy2.cell 3
       simp only [List.getElem?_cons_zero, List.getElem?_cons_succ] at j0 j1 r0 r1 r2 r3
       have f0 := hy2.frozen 0
       have f1 := hy2.frozen 1
       have f2 := hy2.frozen 2
       have f3 := hy2.frozen 3
       clear hz hb1 hy1 hy2))
  all_goals
    try simp only [List.getElem_toArray, List.getElem_cons_succ, List.getElem_cons_zero, Act.put, List.setIfInBounds_toArray, List.set_cons_succ, List.set_cons_zero]
    go_wp2
    have hbw := (HX.out w1 HB1.out).2
    have hnR : NoInt w1 (w.heap.size + 1) := noInt_of hbw (by simp)
    have hD9 := (HZ.out.mono (B' := w.heap.size) (n' := 3) HB0.out.size (Nat.le_refl _)).put4 hnR (.bool s1) (.slice p1 l1 c1) (.bool s2) (.slice p2 l2 c2)
    have hB9 := set4 (HB0.out.trans (HB1.out.mono HB0.out.size)) (w.heap.size + 1) (Nat.le_succ _) (.bool s1) (.slice p1 l1 c1) (.bool s2) (.slice p2 l2 c2)
    have hZ : Bx ((((w1.setCell ⟨w.heap.size + 1, 0, none⟩ (.bool s1)).setCell ⟨w.heap.size + 1, 1, none⟩ (.slice p1 l1 c1)).setCell ⟨w.heap.size + 1, 2, none⟩ (.bool s2)).setCell ⟨w.heap.size + 1, 3, none⟩ (.slice p2 l2 c2)) (w.heap.size + 1) [.bool s1, .slice p1 l1 c1, .bool s2, .slice p2 l2 c2] := (((hbw.set 0 _).set 1 _).set 2 _).set 3 _
    generalize (((w1.setCell ⟨w.heap.size + 1, 0, none⟩ (.bool s1)).setCell ⟨w.heap.size + 1, 1, none⟩ (.slice p1 l1 c1)).setCell ⟨w.heap.size + 1, 2, none⟩ (.bool s2)).setCell ⟨w.heap.size + 1, 3, none⟩ (.slice p2 l2 c2) = W9 at *
    have m0 := hZ.cell 0
    have m1 := hZ.cell 1
    have m2 := hZ.cell 2
    have m3 := hZ.cell 3
    simp only [List.getElem?_cons_zero, List.getElem?_cons_succ] at m0 m1 m2 m3
    refine bodyPost_ret (v := .agg #[.bool s1, .slice p1 l1 c1, .bool s2, .slice p2 l2 c2]) ?_ rfl ⟨s2, p2, l2, c2, rfl, hD9, hB9⟩
    simp [results, Tryd.results27, go_sem, m0, m1, m2, m3]
end Go.Proofs.YtpjnglcojamfmaaDoor
namespace Go.Proofs.YtpjnglcojamfmaaDoor
open Go.ChangeShapes Go.WideShapes Go.ChangeAt Go.RowKit
def ShapeR (z : Value) : Prop := ∃ s1 p1 l1 c1 s2 p2 l2 c2, z = .agg #[.bool s1, .slice p1 l1 c1, .bool s2, .slice p2 l2 c2]
/-- What readRational answers. -/
def ReadR (B : Nat) (w : World) (s : ByteArray) (k : Option Nat) (z : Value) (ok : Bool) : Prop :=
  ShapeR z ∧ (ok = true ↔ ∃ x y, RatV s k x y) ∧ (ok = true → ∃ x y, RatV s k x y ∧ IsQR B w z x y 300)
theorem IsQR.mono {B B' : Nat} {w : World} {z : Value} {x y : Int} {n n' : Nat} (h : IsQR B w z x y n) (hb : B' ≤ B) (hn : n ≤ n') : IsQR B' w z x y n' := by
  obtain ⟨s1, v1, s2, v2, e, h1, h2⟩ := h
  exact ⟨s1, v1, s2, v2, e, h1.mono hb hn, h2.mono hb hn⟩
theorem IsQR.put4 {B : Nat} {W : World} {z : Value} {x y : Int} {n : Nat} (h : IsQR B W z x y n) {g : Nat} (no : NoInt W g) (u0 u1 u2 u3 : Value) : IsQR B ((((W.setCell ⟨g, 0, none⟩ u0).setCell ⟨g, 1, none⟩ u1).setCell ⟨g, 2, none⟩ u2).setCell ⟨g, 3, none⟩ u3) z x y n := by
  obtain ⟨s1, v1, s2, v2, e, h1, h2⟩ := h
  exact ⟨s1, v1, s2, v2, e, h1.put4 no u0 u1 u2 u3, h2.put4 no u0 u1 u2 u3⟩
theorem readR_of (B : Nat) (W : World) (s p q u v : ByteArray) (i : Nat) (b bb ok : Bool) (z : Value) (xn xd : Int) (hP : cutP s (some i) = p ∧ cutQ s (some i) = q ∧ (some i).isSome = b) (hI : isIntB p = true ∧ isIntB q = true) (h0 : numT q ≠ 0) (hl : IsLow (numT p) (numT q) xn xd)
    (hu : IsText xn u ∧ (if xd = 1 then bb = false ∧ v = ⟨#[]⟩ else bb = true ∧ IsText xd v)) (hok : (u.toList == p.toList && bb == b && v.toList == q.toList) = ok) (hR : IsQR B W z xn xd 283) : ReadR B W s (some i) z ok := by
  obtain ⟨rfl, rfl, hb⟩ := hP
  have hbt : b = true := hb.symm
  subst hbt
  have key : ok = true ↔ (xd ≠ 1 ∧ IsText xn (cutP s (some i)) ∧ IsText xd (cutQ s (some i))) := by
    rw [← hok, toList_inj, toList_inj]
    simp only [Bool.and_eq_true, decide_eq_true_eq, beq_iff_eq]
    constructor
    · rintro ⟨⟨rfl, rfl⟩, rfl⟩
      by_cases h1 : xd = 1
      · rw [if_pos h1] at hu; exact absurd hu.2.1 (by decide)
      · rw [if_neg h1] at hu; exact ⟨h1, hu.1, hu.2.2⟩
    · rintro ⟨h1, h2, h3⟩
      rw [if_neg h1] at hu
      exact ⟨⟨hu.1.eq h2, hu.2.1⟩, hu.2.2.eq h3⟩
  have hrf := rat_form _ _ xn xd hI.1 hI.2 h0 hl
  have hV : ok = true → RatV s (some i) (numT (cutP s (some i))) (numT (cutQ s (some i))) := fun e => by
    obtain ⟨a1, a2, a3, a4⟩ := hrf.1 (key.1 e)
    exact ⟨hI, ⟨h0, a1, a2, a3, a4⟩, rfl, rfl⟩
  have hsh : ShapeR z := by
    obtain ⟨s1, p1, l1, c1, s2, p2, l2, c2, h, _⟩ := hR.shape
    exact ⟨s1, p1, l1, c1, s2, p2, l2, c2, h⟩
  refine ⟨hsh, ⟨fun e => ⟨_, _, hV e⟩, ?_⟩, fun e => ?_⟩
  · rintro ⟨x, y, _, ⟨_, a1, a2, a3, a4⟩, _, _⟩
    exact key.2 (hrf.2 ⟨a1, a2, a3, a4⟩)
  · obtain ⟨_, t1, t2⟩ := key.1 e
    have e1 := text_inj t1 (text_back _ hI.1) (text_ne _ hI.1)
    have e2 := text_inj t2 (text_back _ hI.2) (text_ne _ hI.2)
    refine ⟨_, _, hV e, ?_⟩
    rw [← e1, ← e2]
    exact hR.mono (Nat.le_refl _) (by omega)
end Go.Proofs.YtpjnglcojamfmaaDoor
namespace Go.Proofs.YtpjnglcojamfmaaDoor
open Go.ChangeShapes Go.WideShapes Go.ChangeAt Go.RowKit
/-- The text of x over y. -/
def TextR (x y : Int) (u : ByteArray) : Prop :=
  if y = 1 then IsText x u else ∃ p q, IsText x p ∧ IsText y q ∧ u = if p.size = 0 ∨ q.size = 0 then ⟨#[]⟩ else p ++ ⟨#[47]⟩ ++ q
theorem text_size {x : Int} {u : ByteArray} (h : IsText x u) : u.size ≤ 2501 := by
  obtain ⟨neg, t, _, _, _, rfl⟩ := h
  unfold textT
  split
  · rw [strB_size]; decide
  · unfold textS
    split
    · rw [strB_size]; exact Nat.zero_le _
    · split
      · rw [strB_size, List.length_cons]; omega
      · rw [strB_size]; omega
theorem empty_iff (u : ByteArray) : u.toList.isEmpty = decide (u.size = 0) := by
  rw [ByteArray.toList_eq]
  have : u.data.toList.length = u.size := by simp
  cases h : u.data.toList with
  | nil => rw [h] at this; simp at this; simp [← this]
  | cons c l =>
    rw [h] at this
    have h2 : u.size ≠ 0 := by rw [← this]; simp
    simp [h2]
set_option maxRecDepth 100000 in
set_option maxHeartbeats 1000000 in
theorem textR_any (B : Nat) (z : Value) (x y : Int) (n : Nat) (w : World) (hBw : B ≤ w.heap.size) (h : IsQR B w z x y n) (hn : n ≤ 600) (hSP : SP w) (hLT : LT w) :
    Calls Tryd.prog 20 #[z] w fun e w' => ∃ u, e = .returned (.string u) ∧ TextR x y u ∧ Below w.heap.size w w' := by
  have HR := hidG h
  obtain ⟨s1, p1, l1, c1, s2, p2, l2, c2, rfl, _, _⟩ := h.shape
  have HSP := hidG hSP
  have HLT := hidG hLT
  have HBW := hidG hBw
  clear h hSP hLT hBw
  obtain ⟨W0, hW0⟩ : ∃ W0, w.alloc (.cells #[.bool s1, .slice p1 l1 c1, .bool s2, .slice p2 l2 c2] 35) = W0 := ⟨_, rfl⟩
  have HW0 := hidG hW0
  have HB0 : Hid (Below w.heap.size w W0) := by show Below w.heap.size w W0; rw [← hW0]; exact below_alloc _ _
  have hx1 : Bx W0 w.heap.size [.bool s1, .slice p1 l1 c1, .bool s2, .slice p2 l2 c2] := by rw [← hW0]; exact bx_new w _ _
  have k0 := hx1.cell 0
  have k1 := hx1.cell 1
  have k2 := hx1.cell 2
  have k3 := hx1.cell 3
  simp only [List.getElem?_cons_zero, List.getElem?_cons_succ] at k0 k1 k2 k3
  clear hW0 hx1
  go_enter Tryd.func20, Tryd.ntmps20
  go_wp2_with fail
  rw [HW0.out]
  refine (form_any B _ x y n W0 (by have := HBW.out; have := HB0.out.size; omega) (HR.out.below HB0.out) hn (HSP.out.below HB0.out) (HLT.out.below HB0.out)).mono ?_
  rintro e w1 ⟨r, rfl, hfo, hb1⟩
  obtain ⟨u, v, bb, rfl, hu, hv⟩ := hfo
  have HUV : Hid (IsText x u ∧ (if y = 1 then bb = false ∧ v = ⟨#[]⟩ else bb = true ∧ IsText y v)) := ⟨hu, hv⟩
  have HBW1 := hidG (HB0.out.trans (hb1.mono HB0.out.size))
  obtain ⟨W2, hW2⟩ : ∃ W2, w1.alloc (.cells #[.string u, .bool bb, .string v] 53) = W2 := ⟨_, rfl⟩
  have HW2 := hidG hW2
  have HB2 : Hid (Below w.heap.size w W2) := by
    show Below w.heap.size w W2
    rw [← hW2]; exact HBW1.out.alloc HBW1.out.size _
  have hx2 : Bx W2 w1.heap.size [.string u, .bool bb, .string v] := by rw [← hW2]; exact bx_new w1 _ _
  have g0 := hx2.cell 0
  have g1 := hx2.cell 1
  have g2 := hx2.cell 2
  simp only [List.getElem?_cons_zero, List.getElem?_cons_succ] at g0 g1 g2
  clear hW2 hx2 hu hv hb1 k0 k1 k2 k3
  cases bb
  · have HF : Hid (TextR x y u) := by
      show TextR x y u
      unfold TextR
      by_cases h1 : y = 1
      · rw [if_pos h1]; exact HUV.out.1
      · have h2 := HUV.out.2
        rw [if_neg h1] at h2
        exact absurd h2.1 (by decide)
    go_upto_region 2 with fail
    rw [HW2.out]
    go_wp2
    go_ret
    exact ⟨_, rfl, HF.out, HB2.out⟩
  · have HF : Hid (∀ t, t = (if u.size = 0 ∨ v.size = 0 then ⟨#[]⟩ else u ++ ⟨#[47]⟩ ++ v) → TextR x y t) := fun t ht => by
      show TextR x y t
      unfold TextR
      by_cases h1 : y = 1
      · have h2 := HUV.out.2
        rw [if_pos h1] at h2
        exact absurd h2.1 (by decide)
      · have h2 := HUV.out.2
        rw [if_neg h1] at h2
        rw [if_neg h1]
        exact ⟨u, v, HUV.out.1, h2.2, ht⟩
    have hus : u.size ≤ 2501 := text_size HUV.out.1
    have hvs : v.size ≤ 2501 := by
      by_cases h1 : y = 1
      · have h2 := HUV.out.2
        rw [if_pos h1] at h2
        rw [h2.2]; exact Nat.zero_le _
      · have h2 := HUV.out.2
        rw [if_neg h1] at h2
        exact text_size h2.2
    go_upto_region 2 with fail
    rw [HW2.out]
    by_cases hu0 : u.size = 0
    · have z : u.toList.isEmpty = true := by rw [empty_iff]; exact decide_eq_true hu0
      have HT := hidG (HF.out ⟨#[]⟩ (by rw [if_pos (.inl hu0)]))
      clear hu0
      go_wp2
      go_ret
      exact ⟨_, rfl, HT.out, HB2.out⟩
    · have z : u.toList.isEmpty = false := by rw [empty_iff]; exact decide_eq_false hu0
      by_cases hv0 : v.size = 0
      · have z2 : v.toList.isEmpty = true := by rw [empty_iff]; exact decide_eq_true hv0
        have HT := hidG (HF.out ⟨#[]⟩ (by rw [if_pos (.inr hv0)]))
        clear hv0
        go_wp2
        go_ret
        exact ⟨_, rfl, HT.out, HB2.out⟩
      · have z2 : v.toList.isEmpty = false := by rw [empty_iff]; exact decide_eq_false hv0
        have HT := hidG (HF.out _ (if_neg (fun h => h.elim hu0 hv0)).symm)
        have e47 : (⟨#[47]⟩ : ByteArray).size = 1 := rfl
        have hc1 : (u ++ (⟨#[47]⟩ : ByteArray)).size ≤ 3000 := by rw [ByteArray.size_append]; omega
        have hc2 : (u ++ (⟨#[47]⟩ : ByteArray) ++ v).size ≤ 6000 := by rw [ByteArray.size_append]; omega
        go_wp2
        go_ret
        exact ⟨_, rfl, HT.out, HB2.out⟩
end Go.Proofs.YtpjnglcojamfmaaDoor
namespace Go.Proofs.YtpjnglcojamfmaaDoor
open Go.ChangeShapes Go.WideShapes Go.ChangeAt Go.RowKit
/-- What both sides of RatOf answer. -/
def IsResO (s t u : ByteArray) : Prop := if isIntB s = true ∧ isIntB t = true ∧ numT t ≠ 0 then ∃ p q, IsLow (numT s) (numT t) p q ∧ TextR p q u else u = ⟨#[]⟩
theorem TextR.eq {x y : Int} {u v : ByteArray} (h : TextR x y u) (h' : TextR x y v) : u = v := by
  unfold TextR at h h'
  split at h
  · rename_i hc
    rw [if_pos hc] at h'
    exact h.eq h'
  · rename_i hc
    rw [if_neg hc] at h'
    obtain ⟨p, q, h1, h2, rfl⟩ := h
    obtain ⟨p', q', h1', h2', rfl⟩ := h'
    rw [h1.eq h1', h2.eq h2']
theorem IsResO.eq {s t u v : ByteArray} (h : IsResO s t u) (h' : IsResO s t v) : u = v := by
  unfold IsResO at h h'
  split at h
  · rename_i hc
    rw [if_pos hc] at h'
    obtain ⟨p, q, h1, h2⟩ := h
    obtain ⟨p', q', h1', h2'⟩ := h'
    obtain ⟨rfl, rfl⟩ := isLow_unique h1 h1'
    exact h2.eq h2'
  · rename_i hc
    rw [if_neg hc] at h'
    rw [h, h']
set_option maxRecDepth 100000 in
set_option maxHeartbeats 1000000 in
theorem implRatOf_any (s t : ByteArray) (w : World) (hs : s.size ≤ maxLen) (ht : t.size ≤ maxLen) (hSP : SP w) (hNS : NS w) (hLT : LT w) :
    Calls Tryd.prog 8 #[.string s, .string t] w fun e w' => ∃ u, e = .returned (.string u) ∧ IsResO s t u ∧ Below w.heap.size w w' := by
  have HSP := hidG hSP
  have HNS := hidG hNS
  have HLT := hidG hLT
  clear hSP hNS hLT
  go_enter Tryd.func8, Tryd.ntmps8
  go_wp2_with fail
  refine (readPair_any s t _ hs ht).mono ?_
  rintro e w3 ⟨n1, a1, l1, c1, n2, a2, l2, c2, rfl, hI1, hI2, hb3⟩
  have HI1 := hidG hI1
  have HI2 := hidG hI2
  have HB3 := hidG hb3
  obtain ⟨ok, hok⟩ : ∃ ok, (isIntB s && isIntB t) = ok := ⟨_, rfl⟩
  have HOK := hidG hok
  rw [hok]
  clear hI1 hI2 hb3 hok
  obtain ⟨W4, hW4⟩ : ∃ W4, (w3.alloc (.cells #[.bool n1, .slice a1 l1 c1] 33)).alloc (.cells #[.bool n2, .slice a2 l2 c2] 33) = W4 := ⟨_, rfl⟩
  have HW4 := hidG hW4
  have hB4 : Below w3.heap.size w3 W4 := by rw [← hW4]; exact below_al (below_alloc _ _) _
  have hn1 : Bx W4 w3.heap.size [.bool n1, .slice a1 l1 c1] := by rw [← hW4]; exact (bx_new w3 _ _).alloc _
  have hn2 : Bx W4 (w3.heap.size + 1) [.bool n2, .slice a2 l2 c2] := by
    rw [← hW4]
    have h := bx_new (w3.alloc (.cells #[.bool n1, .slice a1 l1 c1] 33)) [.bool n2, .slice a2 l2 c2] 33
    rw [World.size_alloc] at h
    exact h
  have HN : Hid (∀ W, Below W4.heap.size W4 W → Bx W w3.heap.size [.bool n1, .slice a1 l1 c1] ∧ Bx W (w3.heap.size + 1) [.bool n2, .slice a2 l2 c2]) := fun W hW => ⟨hn1.below hn1.lt hW, hn2.below hn2.lt hW⟩
  have HB34 := hidG hB4
  have HBW4 : Hid (Below w.heap.size w W4) := HB3.out.trans (hB4.mono HB3.out.size)
  have d0 := hn2.cell 0
  have d1 := hn2.cell 1
  simp only [List.getElem?_cons_zero, List.getElem?_cons_succ] at d0 d1
  clear hW4 hB4 hn1 hn2
  go_upto_region 2 with fail
  rw [HW4.out]
  cases ok
  · have HF : Hid (IsResO s t ⟨#[]⟩) := by
      show IsResO s t ⟨#[]⟩
      unfold IsResO
      rw [if_neg]
      rintro ⟨h1, h2, _⟩
      have := HOK.out
      rw [h1, h2] at this
      cases this
    go_wp2
    go_ret
    exact ⟨_, rfl, HF.out, HBW4.out⟩
  · have HII : Hid (isIntB s = true ∧ isIntB t = true) := by
      show isIntB s = true ∧ isIntB t = true
      have := HOK.out
      simpa using this
    go_wp2_with fail
    refine (isZero_any _ _ _ _ _).mono ?_
    rintro e w5 ⟨rfl, hw5⟩
    have HB45 : Hid (Below W4.heap.size W4 w5) := by show Below W4.heap.size W4 w5; rw [hw5]; exact below_alloc _ _
    have HBW5 : Hid (Below w.heap.size w w5) := HBW4.out.trans (HB45.out.mono HBW4.out.size)
    have hl2 : l2 = (lim t).length := by
      obtain ⟨_, hL⟩ := HI2.out HII.out.2
      obtain ⟨_, _, e, _⟩ := hL
      simp only [Value.slice.injEq] at e
      exact e.2.1
    have HL2 := hidG hl2
    clear hw5 hl2 d0 d1
    by_cases hz : l2 = 0
    · have z : ((l2 : Int) == 0) = true := by rw [beq_iff_eq]; omega
      have HF : Hid (IsResO s t ⟨#[]⟩) := by
        show IsResO s t ⟨#[]⟩
        unfold IsResO
        rw [if_neg]
        rintro ⟨_, _, h3⟩
        exact h3 ((sg_zero_iff _ _ (trimL_trim _)).2 (List.eq_nil_of_length_eq_zero (HL2.out.symm.trans hz)))
      rw [z]
      go_wp2
      go_ret
      exact ⟨_, rfl, HF.out, HBW5.out⟩
    · have z : ((l2 : Int) == 0) = false := by rw [beq_eq_false_iff_ne]; omega
      rw [z]
      have hx5 := HN.out w5 HB45.out
      have d0 := hx5.1.cell 0
      have d1 := hx5.1.cell 1
      have d2 := hx5.2.cell 0
      have d3 := hx5.2.cell 1
      simp only [List.getElem?_cons_zero, List.getElem?_cons_succ] at d0 d1 d2 d3
      have hb35 : Below w3.heap.size w3 w5 := HB34.out.trans (HB45.out.mono HB34.out.size)
      have HNUM : Hid (IsI w.heap.size w5 (.agg #[.bool n1, .slice a1 l1 c1]) (numT s) 280) := by
        obtain ⟨hn, hL⟩ := HI1.out HII.out.1
        have h1 : IsI w.heap.size w3 (.agg #[.bool n1, .slice a1 l1 c1]) (numT s) 280 := ⟨isNeg s, _, lim s, by rw [hn]; rfl, hL, trimL_trim _, rfl, lim_len' s HII.out.1⟩
        exact h1.below hb35
      have HDEN : Hid (IsI w.heap.size w5 (.agg #[.bool n2, .slice a2 l2 c2]) (numT t) 280) := by
        obtain ⟨hn, hL⟩ := HI2.out HII.out.2
        have h1 : IsI w.heap.size w3 (.agg #[.bool n2, .slice a2 l2 c2]) (numT t) 280 := ⟨isNeg t, _, lim t, by rw [hn]; rfl, hL, trimL_trim _, rfl, lim_len' t HII.out.2⟩
        exact h1.below hb35
      have HNZ : Hid (numT t ≠ 0) := fun h => hz (by
        have h2 : lim t = [] := (sg_zero_iff _ _ (trimL_trim _)).1 h
        rw [HL2.out, h2]; rfl)
      clear hx5 hb35
      go_wp2_with fail
      refine (makeRational_any w.heap.size _ _ (numT s) (numT t) 280 _ HBW5.out.size HNUM.out HDEN.out HNZ.out (by omega) (HSP.out.below HBW5.out) (HNS.out.below HBW5.out)).mono ?_
      rintro e w6 ⟨z, xn, xd, rfl, hR, hlow, hb6⟩
      have HLOW := hidG hlow
      have HBW6 := hidG (HBW5.out.trans (hb6.mono HBW5.out.size))
      have HR := hidG hR
      obtain ⟨s5, p5, l5, c5, s6, p6, l6, c6, rfl, _, _⟩ := hR.shape
      clear hR hlow hb6 d0 d1 d2 d3
      go_wp2_with fail
      refine (textR_any w.heap.size _ xn xd 283 _ HBW6.out.size HR.out (by omega) (HSP.out.below HBW6.out) (HLT.out.below HBW6.out)).mono ?_
      rintro e w7 ⟨u, rfl, hu, hb7⟩
      have HF : Hid (IsResO s t u) := by
        show IsResO s t u
        unfold IsResO
        rw [if_pos ⟨HII.out.1, HII.out.2, HNZ.out⟩]
        exact ⟨xn, xd, HLOW.out, hu⟩
      have HB7 := hidG (HBW6.out.trans (hb7.mono HBW6.out.size))
      clear hu hb7
      go_wp2
      go_ret
      exact ⟨_, rfl, HF.out, HB7.out⟩
end Go.Proofs.YtpjnglcojamfmaaDoor
