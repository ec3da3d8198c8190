import Derived.Test.YtpjnglcojamfmaaGreatDoorK2
import Derived.Test.YtpjnglcojamfmaaGreatDoorRatF
import Derived.Test.YtpjnglcojamfmaaGreatDoorK1
import Derived.Test.YtpjnglcojamfmaaGreatDoorRatK
import Derived.Test.YtpjnglcojamfmaaGreatDoorRows
import Derived.Test.YtpjnglcojamfmaaGreatDoorCards
import Derived.Test.YtpjnglcojamfmaaGreatDoorTie
import Derived.Test.YtpjnglcojamfmaaGreatDoorK3
import Derived.WalkKit
import Derived.ProofKit
import Derived.OpenShut
import Derived.ShutString
import Derived.ChangeOld
import Derived.ChangeVars
import Derived.Below
import Derived.WalkSmall
import Derived.LaidMore
import Derived.Lay
import Derived.Stop.Joined
import Derived.SevenTiedAt
namespace Go.Proofs.YtpjnglcojamfmaaGreatDoor
open Go.ChangeShapes Go.WideShapes Go.ChangeAt Go.RowKit
end Go.Proofs.YtpjnglcojamfmaaGreatDoor
namespace Go.Proofs.YtpjnglcojamfmaaGreatDoor
open Go.ChangeShapes Go.WideShapes Go.ChangeAt Go.RowKit
set_option maxRecDepth 100000 in
set_option maxHeartbeats 1000000 in
theorem floor_any (B : Nat) (z : Value) (x y : Int) (n : Nat) (w : World) (hBw : B ≤ w.heap.size) (h : IsQR B w z x y n) (hn : n ≤ 80000) (hy : y ≠ 0) (hSP : SP w) :
    Calls Tryz.prog 85 #[z] w fun e w' => ∃ r q t, e = .returned r ∧ IsI B w' r q (n + 2) ∧ IsDiv x y q t ∧ Below w.heap.size w w' := by
  obtain ⟨s1, p1, l1, c1, s2, p2, l2, c2, rfl, h1, h2⟩ := h.shape
  have HSP := hidG hSP
  have HBW := hidG hBw
  have H1 := hidG h1
  have H2 := hidG h2
  clear h hSP hBw h1 h2
  obtain ⟨W0, hW0⟩ : ∃ W0, (w.alloc (.cells #[.bool s1, .slice p1 l1 c1, .bool s2, .slice p2 l2 c2] 65)).alloc (.cells #[.bool false, .slice none 0 0] 47) = W0 := ⟨_, rfl⟩
  have HW0 := hidG hW0
  have HB0 : Hid (Below w.heap.size w W0) := by
    show Below w.heap.size w W0
    rw [← hW0]; exact below_al (below_alloc _ _) _
  have hx1 : Bx W0 w.heap.size [.bool s1, .slice p1 l1 c1, .bool s2, .slice p2 l2 c2] := by rw [← hW0]; exact (bx_new w _ _).alloc _
  have hx2 : Bx W0 (w.heap.size + 1) [.bool false, .slice none 0 0] := by
    rw [← hW0]
    have h := bx_new (w.alloc (.cells #[.bool s1, .slice p1 l1 c1, .bool s2, .slice p2 l2 c2] 65)) [.bool false, .slice none 0 0] 47
    rw [World.size_alloc] at h
    exact h
  have HX : Hid (∀ W, Below W0.heap.size W0 W → Bx W (w.heap.size + 1) [.bool false, .slice none 0 0]) := fun W hW => hx2.below hx2.lt hW
  clear hW0
  have k0 := hx1.cell 0
  have k1 := hx1.cell 1
  have k2 := hx1.cell 2
  have k3 := hx1.cell 3
  simp only [List.getElem?_cons_zero, List.getElem?_cons_succ] at k0 k1 k2 k3
  clear hx1 hx2
  go_enter Tryz.func85, Tryz.ntmps85
  go_upto_region 1 with fail
  rw [HW0.out]
  go_wp2_with fail
  refine (dividedBy_any B _ _ x y n n _ (by have := HBW.out; have := HB0.out.size; omega) (H1.out.below HB0.out) (H2.out.below HB0.out) hy (by omega) (by omega) (HSP.out.below HB0.out)).mono ?_
  rintro e w1 ⟨z1, z2, q, r, rfl, hz1, hz2, hdv, hb1⟩
  obtain ⟨s5, p5, l5, c5, rfl⟩ := hz1.shape
  obtain ⟨s6, p6, l6, c6, rfl⟩ := hz2.shape
  have HZ1 := hidG hz1
  have HDV := hidG hdv
  have HB1 := hidG hb1
  obtain ⟨W2, hW2⟩ : ∃ W2, (w1.alloc (.cells #[.bool s5, .slice p5 l5 c5] 47)).alloc (.cells #[.bool s6, .slice p6 l6 c6] 47) = W2 := ⟨_, rfl⟩
  have HW2 := hidG hW2
  have hB2 : Below w1.heap.size w1 W2 := by rw [← hW2]; exact below_al (below_alloc _ _) _
  have hq1 : Bx W2 w1.heap.size [.bool s5, .slice p5 l5 c5] := by rw [← hW2]; exact (bx_new w1 _ _).alloc _
  have HB02 : Hid (Below W0.heap.size W0 W2) := HB1.out.trans (hB2.mono HB1.out.size)
  have HZ2 : Hid (IsI B W2 (.agg #[.bool s5, .slice p5 l5 c5]) q (n + 2)) := HZ1.out.below hB2
  have q0 := hq1.cell 0
  have q1 := hq1.cell 1
  have hbw := HX.out W2 HB02.out
  have r0 := hbw.cell 0
  have r1 := hbw.cell 1
  simp only [List.getElem?_cons_zero, List.getElem?_cons_succ] at q0 q1 r0 r1
  have f0 := hbw.frozen 0
  have f1 := hbw.frozen 1
  clear hz1 hz2 hdv hb1 k0 k1 k2 k3 hW2 hB2 hq1 hbw
  go_upto_region 2 with fail
  rw [HW2.out]
  go_wp2
  have hbw := HX.out W2 HB02.out
  have hno : NoInt W2 (w.heap.size + 1) := noInt_of hbw (by simp)
  have hLL := HZ2.out.put2 hno (.bool s5) (.slice p5 l5 c5)
  have hZ : Bx ((W2.setCell ⟨w.heap.size + 1, 0, none⟩ (.bool s5)).setCell ⟨w.heap.size + 1, 1, none⟩ (.slice p5 l5 c5)) (w.heap.size + 1) [.bool s5, .slice p5 l5 c5] := (hbw.set 0 _).set 1 _
  have hE := set2 (HB0.out.trans (HB02.out.mono HB0.out.size)) (w.heap.size + 1) (Nat.le_succ _) (.bool s5) (.slice p5 l5 c5)
  generalize (W2.setCell ⟨w.heap.size + 1, 0, none⟩ (.bool s5)).setCell ⟨w.heap.size + 1, 1, none⟩ (.slice p5 l5 c5) = WE at *
  have m0 := hZ.cell 0
  have m1 := hZ.cell 1
  simp only [List.getElem?_cons_zero, List.getElem?_cons_succ] at m0 m1
  refine bodyPost_ret (v := .agg #[.bool s5, .slice p5 l5 c5]) ?_ rfl ⟨_, q, r, rfl, hLL, HDV.out, hE⟩
  simp [results, Tryz.results85, go_sem, m0, m1]
end Go.Proofs.YtpjnglcojamfmaaGreatDoor
namespace Go.Proofs.YtpjnglcojamfmaaGreatDoor
open Go.ChangeShapes Go.WideShapes Go.ChangeAt Go.RowKit
/-- What both sides of RatFloor answer. -/
def IsResF (s u : ByteArray) : Prop := ∃ k, IsCut s k ∧ ((∃ x y q r, RatV s k x y ∧ IsDiv x y q r ∧ IsText q u) ∨ ((¬ ∃ x y, RatV s k x y) ∧ u = strB []))
theorem ratV_unique {s : ByteArray} {k : Option Nat} {x y x' y' : Int} (h : RatV s k x y) (h' : RatV s k x' y') : x = x' ∧ y = y' := by
  cases k with
  | none => exact ⟨h.2.1.trans h'.2.1.symm, h.2.2.trans h'.2.2.symm⟩
  | some i => exact ⟨h.2.2.1.trans h'.2.2.1.symm, h.2.2.2.trans h'.2.2.2.symm⟩
theorem ratV_pos {s : ByteArray} {k : Option Nat} {x y : Int} (h : RatV s k x y) : 0 < y := by
  cases k with
  | none => rw [h.2.2]; decide
  | some i =>
    have h1 := numT_pos _ h.2.1.2.2.2.1
    have h2 := h.2.1.1
    rw [h.2.2.2]
    omega
theorem IsResF.eq {s u v : ByteArray} (h : IsResF s u) (h' : IsResF s v) : u = v := by
  obtain ⟨k, hk, h⟩ := h
  obtain ⟨m, hm, h'⟩ := h'
  obtain rfl := isCut_unique hk hm
  rcases h with ⟨x, y, q, r, h1, h2, h3⟩ | ⟨h1, h2⟩ <;> rcases h' with ⟨x', y', q', r', h1', h2', h3'⟩ | ⟨h1', h2'⟩
  · obtain ⟨rfl, rfl⟩ := ratV_unique h1 h1'
    obtain ⟨rfl, _⟩ := isDiv_unique h2 h2'
    exact h3.eq h3'
  · exact absurd ⟨x, y, h1⟩ h1'
  · exact absurd ⟨x', y', h1'⟩ h1
  · rw [h2, h2']
set_option maxRecDepth 100000 in
set_option maxHeartbeats 1000000 in
theorem implRatFloor_any (s : ByteArray) (w : World) (hs : s.size ≤ maxLen) (hSP : SP w) (hNS : NS w) (hLT : LT w) :
    Calls Tryz.prog 40 #[.string s] w fun e w' => ∃ u, e = .returned (.string u) ∧ IsResF s u ∧ Below w.heap.size w w' := by
  obtain ⟨k, hk⟩ := isCut_ex s
  have HK := hidG hk
  have HSP := hidG hSP
  have HNS := hidG hNS
  have HLT := hidG hLT
  clear hk hSP hNS hLT
  go_enter Tryz.func40, Tryz.ntmps40
  go_wp2_with fail
  refine (readRational_any s k _ hs HK.out HSP.out HNS.out HLT.out).mono ?_
  rintro e w1 ⟨z, ok, rfl, hR, hb1⟩
  have HB1 := hidG hb1
  have HR := hidG hR
  obtain ⟨s1, p1, l1, c1, s2, p2, l2, c2, rfl⟩ := hR.1
  clear hR hb1
  cases ok
  · have HF : Hid (IsResF s (strB [])) := ⟨k, HK.out, .inr ⟨fun h => Bool.noConfusion (HR.out.2.1.2 h), rfl⟩⟩
    go_wp2
    go_ret
    exact ⟨_, rfl, HF.out, HB1.out.alloc HB1.out.size _⟩
  · obtain ⟨x, y, hV, hQ⟩ := HR.out.2.2 rfl
    have HV := hidG hV
    obtain ⟨W2, hW2⟩ : ∃ W2, w1.alloc (.cells #[.bool s1, .slice p1 l1 c1, .bool s2, .slice p2 l2 c2] 65) = W2 := ⟨_, rfl⟩
    have HW2 := hidG hW2
    have hB2 : Below w1.heap.size w1 W2 := by rw [← hW2]; exact below_alloc _ _
    have HQ2 := hidG (hQ.below hB2)
    have HB2 : Hid (Below w.heap.size w W2) := HB1.out.trans (hB2.mono HB1.out.size)
    have hxb : Bx W2 w1.heap.size [.bool s1, .slice p1 l1 c1, .bool s2, .slice p2 l2 c2] := by rw [← hW2]; exact bx_new w1 _ _
    have k0 := hxb.cell 0
    have k1 := hxb.cell 1
    have k2 := hxb.cell 2
    have k3 := hxb.cell 3
    simp only [List.getElem?_cons_zero, List.getElem?_cons_succ] at k0 k1 k2 k3
    have HYP : Hid (y ≠ 0) := by have := ratV_pos hV; show y ≠ 0; omega
    clear hV hQ hW2 hB2 hxb
    go_upto_region 3 with fail
    go_wp2_with fail
    rw [HW2.out]
    refine (floor_any w.heap.size _ x y 300 _ HB2.out.size HQ2.out (by omega) HYP.out (HSP.out.below HB2.out)).mono ?_
    rintro e w3 ⟨r, q, t, rfl, hq, hdv, hb3⟩
    obtain ⟨s5, p5, l5, c5, rfl⟩ := hq.shape
    have HQ3 := hidG hq
    have HDV := hidG hdv
    have HB3 := hidG (HB2.out.trans (hb3.mono HB2.out.size))
    clear hq hdv hb3 k0 k1 k2 k3
    go_wp2_with fail
    refine (textI_any _ _ q _ _ HQ3.out (by omega) (HLT.out.below HB3.out)).mono ?_
    rintro e w4 ⟨u, rfl, hu, hb4⟩
    have HF : Hid (IsResF s u) := ⟨k, HK.out, .inl ⟨x, y, q, t, HV.out, HDV.out, hu⟩⟩
    have HB4 := hidG (HB3.out.trans (hb4.mono HB3.out.size))
    clear hu hb4
    go_wp2
    go_ret
    exact ⟨_, rfl, HF.out, HB4.out⟩
end Go.Proofs.YtpjnglcojamfmaaGreatDoor
namespace Go.Proofs.YtpjnglcojamfmaaGreatDoor
open Go.ChangeShapes Go.WideShapes Go.ChangeAt Go.RowKit
set_option maxRecDepth 100000 in
set_option maxHeartbeats 1000000 in
theorem specRatFloor_any (s : ByteArray) (w : World) (hs : s.size ≤ maxLen) :
    Calls Tryz.prog 39 #[.string s] w fun e w' => ∃ u, e = .returned (.string u) ∧ IsResF s u ∧ Below w.heap.size w w' := by
  go_enter Tryz.func39, Tryz.ntmps39
  go_wp2_with fail
  refine (specIsRat_any s _ hs).mono ?_
  rintro e w1 ⟨b, rfl, hR, hb1⟩
  obtain ⟨k, hk, hiff⟩ := hR
  have HK := hidG hk
  have HIFF := hidG hiff
  have HB1 := hidG hb1
  clear hk hiff hb1
  cases b
  · have HF : Hid (IsResF s (strB [])) := ⟨k, HK.out, .inr ⟨fun h => Bool.noConfusion (HIFF.out.2 h), rfl⟩⟩
    go_wp2
    go_ret
    exact ⟨_, rfl, HF.out, HB1.out⟩
  · obtain ⟨x, y, hV⟩ := HIFF.out.1 rfl
    have HV := hidG hV
    have HYP : Hid (y ≠ 0) := by have := ratV_pos hV; show y ≠ 0; omega
    clear hV
    go_wp2_with fail
    refine (l2Read_any s k x y _ hs HK.out HV.out).mono ?_
    rintro e w2 ⟨z, rfl, hz, hb2⟩
    have HZ := hidG hz
    have HB2 := hidG hb2
    have HBW2 := hidG (HB1.out.trans (hb2.mono HB1.out.size))
    obtain ⟨p0, pn, pa, pl, pc, q0, qn, qa, ql, qc, rfl, _, _⟩ := hz
    clear hb2
    go_wp2_with fail
    refine (l2Floor_any _ _ x y _ HB2.out.size HZ.out HYP.out).mono ?_
    rintro e w3 ⟨z3, q, r, rfl, hn3, hdv, hb3⟩
    have HDV := hidG hdv
    have HN3 := hidG hn3
    have HB3 := hidG hb3
    have HBW3 := hidG (HBW2.out.trans (hb3.mono HBW2.out.size))
    clear hn3 hdv hb3
    go_wp2_with fail
    refine (toldN_any _ _ q _ HN3.out (by have := HB2.out.size; have := HB3.out.size; omega)).mono ?_
    rintro e w4 ⟨u, rfl, hu, hb4⟩
    have HF : Hid (IsResF s u) := ⟨k, HK.out, .inl ⟨x, y, q, r, HV.out, HDV.out, hu⟩⟩
    have HB4 := hidG (HBW3.out.trans (hb4.mono HBW3.out.size))
    clear hu hb4
    go_wp2
    go_ret
    exact ⟨_, rfl, HF.out, HB4.out⟩
end Go.Proofs.YtpjnglcojamfmaaGreatDoor
namespace Go.Proofs.YtpjnglcojamfmaaGreatDoor.fnExactRatFloor
open Go.ChangeShapes Go.WideShapes Go.ChangeAt Go.RowKit
open Go.ChangeMaps (open_string shut_string)
set_option linter.unusedVariables false
theorem own : ownKnob Tryz.prog.godebug = none := by kernel_rfl
theorem laidOut : laidOutB Tryz.prog = true := by kernel_rfl
set_option maxRecDepth 100000 in
set_option maxHeartbeats 1000000 in
theorem walk (a0 : ByteArray) (w0 : a0.size ≤ maxLen) (w : World) (h : LT w ∧ SP w ∧ NS w) :
    Calls Tryz.prog 10 #[.string a0] w fun e w' => e = .returned (.bool true) ∧ Below w.heap.size w w' := by
  have hs := w0
  have HS : Hid (LT w ∧ SP w ∧ NS w) := h
  clear h
  unfold maxLen at w0
  by_cases c : 1048576 < a0.size
  · have z : decide (1048576 < (a0.size : Int)) = true := by rw [decide_eq_true_iff]; omega
    go_enter Tryz.func10, Tryz.ntmps10
    go_wp2
    go_ret
    exact ⟨rfl, Below.refl _ _⟩
  have z : decide (1048576 < (a0.size : Int)) = false := by rw [decide_eq_false_iff_not]; omega
  clear c
  go_enter Tryz.func10, Tryz.ntmps10
  go_wp2_with fail
  refine (specRatFloor_any a0 _ hs).mono ?_
  rintro e W1 ⟨u, rfl, hu, hb1⟩
  have HU : Hid (IsResF a0 u) := hu
  have HB1 : Hid (Below w.heap.size w W1) := hb1
  clear hb1 hu
  go_wp2_with fail
  refine (implRatFloor_any a0 _ hs (HS.out.2.1.below HB1.out) (HS.out.2.2.below HB1.out) (HS.out.1.below HB1.out)).mono ?_
  rintro e W2 ⟨v, rfl, hv, hb2⟩
  have e1 : v = u := hv.eq HU.out
  subst e1
  have HB2 : Hid (Below w.heap.size w W2) := HB1.out.trans (hb2.mono HB1.out.size)
  clear hb2 hv
  go_wp2
  go_ret
  exact ⟨rfl, HB2.out⟩
set_option maxRecDepth 100000 in
theorem lifted (os : Os) (started : os.Started) (H : Type) (enc : TypeId × Value → H) :
    ReturnsInHanded {} Tryz.checked os 10 .any (fun w args => (Rows.fnExactRatFloorSpec.pre enc Tryz.prog Tryz.f10 [] false w args ∧ laidMetH Tryz.prog Rows.fnExactRatFloorRow.laid w) ∧ sizedMet enc Tryz.prog Tryz.f10 (OpenSpec.ofChange Rows.fnExactRatFloorSpec) false w args)
      (Rows.fnExactRatFloorSpec.post enc Tryz.prog Tryz.f10 false true false false) := by
  refine returnsInHanded_of_change_and (C := Tryz.checked) (X := fun w _ => laidMetH Tryz.prog Rows.fnExactRatFloorRow.laid w) (fun _ _ _ hh h => h.of_heap hh) own started (by kernel_rfl) Tryz.func10
    (ChangeSpec.witness_shaped (enc := enc) (C := Tryz.checked) (os := os) (X := fun w _ => laidMetH Tryz.prog Rows.fnExactRatFloorRow.laid w) false (World.laidAll Tryz.prog os Rows.fnExactRatFloorRow.laid) #[.string ByteArray.empty] 8 (World.laidAll_os _ _ _)
      (World.shaped_of_ZipB (by kernel_rfl) (by kernel_rfl)) (by kernel_rfl) (by kernel_rfl) (by kernel_rfl)
      (by rw [MakeChecks.laidMetH_plain _ _ _ (by kernel_rfl)]; exact laidMet_laidAll _ (by kernel_rfl) (by kernel_rfl))) ?_
  intro W base args ds gs before hval0 hW _ _ hL _
  have hval : ∀ (j : Nat) t v, Tryz.f10.params[j]? = some t → args[j]? = some v → Value.okWide Tryz.prog W .any base t v := hval0
  have hW' := hW
  obtain ⟨p, q, hA0, hV, rfl, hfz, hnd⟩ := hW
  have hA : DataW.TrodAll enc Tryz.prog W 0 (fun _ => true) true Tryz.f10.params.toList args.toList ds p := hA0
  rw [Tryz.params10] at hA hval
  obtain ⟨v0, vs0, d0, ds0, p0, q0, hargs, rfl, rfl, h0, r0⟩ := trodAll_cons hA
  obtain ⟨rfl, rfl, rfl⟩ := trodAll_nil r0
  obtain rfl : args = #[v0] := by cases args; simp_all
  obtain ⟨g, t, cs, fuel, d, p', g2, t2, cs2, fuel2, d2, p2, g3, t3, cs3, fuel3, d3, p3, rfl, hg, ht, hvar, hd, hg2, ht2, hvar2, hd2, hg3, ht3, hvar3, hd3, rfl⟩ := trodVars_three hV
  obtain ⟨a0, rfl, rfl, rfl, w0⟩ := open_string Tryz.underlying9 (hval 0 9 v0 rfl rfl) h0
  rw [MakeChecks.laidMetH_plain _ _ _ (by kernel_rfl)] at hL
  have hsp : LT W ∧ SP W ∧ NS W := all3_of_laid hL
  clear hA0 hval0
  refine (walk a0 w0 W hsp).mono fun e W' ⟨he, bel⟩ => ?_
  subst he
  have hlt1 : 1 < W.heap.size := cell_lt hsp.2.2.1
  have hlt2 : 0 < W.heap.size := cell_lt hsp.2.1.1.1
  have hlt3 : 2 < W.heap.size := block_lt hsp.1
  obtain rfl := Option.some.inj (gSteps.symm.trans hg)
  obtain rfl := Option.some.inj (tSteps.symm.trans ht)
  obtain rfl := Option.some.inj (gSigns.symm.trans hg2)
  obtain rfl := Option.some.inj (tSigns.symm.trans ht2)
  obtain rfl := Option.some.inj (gTens.symm.trans hg3)
  obtain rfl := Option.some.inj (tTens.symm.trans ht3)
  have hdx0 : DataW.trod enc Tryz.prog W 0 (fun _ => true) true fuel 151 cs.toList = some (d, p') := hd
  have hvx0 : W.var? Tryz.prog "loop.example/g00007/impl.noSteps" = some cs := hvar
  have hltx0 : ∀ x ∈ p', x.block < W.heap.size := DataW.trod_lt fuel _ _ _ hdx0
  obtain ⟨fl0, hq0⟩ := Below.trod laidOut (by kernel_rfl) (of_decide_eq_true (by kernel_rfl)) (v := .agg cs) (⟨fuel, by simpa [Value.cells] using hdx0⟩ : DataW.Trod enc Tryz.prog W 0 (fun _ => true) true 151 (.agg cs) d p') bel hltx0
  have hz0 : DataW.trod enc Tryz.prog W' 0 (fun b => decide (b < W.heap.size)) true fl0 151 cs.toList = some (d, p') := by simpa [Value.cells] using hq0
  have hdx1 : DataW.trod enc Tryz.prog W 0 (fun _ => true) true fuel2 138 cs2.toList = some (d2, p2) := hd2
  have hvx1 : W.var? Tryz.prog "loop.example/g00007/impl.signPairs" = some cs2 := hvar2
  have hltx1 : ∀ x ∈ p2, x.block < W.heap.size := DataW.trod_lt fuel2 _ _ _ hdx1
  obtain ⟨fl1, hq1⟩ := Below.trod laidOut (by kernel_rfl) (of_decide_eq_true (by kernel_rfl)) (v := .agg cs2) (⟨fuel2, by simpa [Value.cells] using hdx1⟩ : DataW.Trod enc Tryz.prog W 0 (fun _ => true) true 138 (.agg cs2) d2 p2) bel hltx1
  have hz1 : DataW.trod enc Tryz.prog W' 0 (fun b => decide (b < W.heap.size)) true fl1 138 cs2.toList = some (d2, p2) := by simpa [Value.cells] using hq1
  have hdx2 : DataW.trod enc Tryz.prog W 0 (fun _ => true) true fuel3 167 cs3.toList = some (d3, p3) := hd3
  have hvx2 : W.var? Tryz.prog "loop.example/g00007/impl.limbTens" = some cs3 := hvar3
  have hltx2 : ∀ x ∈ p3, x.block < W.heap.size := DataW.trod_lt fuel3 _ _ _ hdx2
  obtain ⟨fl2, hq2⟩ := Below.trod laidOut (by kernel_rfl) (of_decide_eq_true (by kernel_rfl)) (v := .agg cs3) (⟨fuel3, by simpa [Value.cells] using hdx2⟩ : DataW.Trod enc Tryz.prog W 0 (fun _ => true) true 167 (.agg cs3) d3 p3) bel hltx2
  have hz2 : DataW.trod enc Tryz.prog W' 0 (fun b => decide (b < W.heap.size)) true fl2 167 cs3.toList = some (d3, p3) := by simpa [Value.cells] using hq2
  have hv3 := trodVars_mk1 (enc := enc) (spare := fun b => decide (b < W.heap.size)) gTens tTens (var?_below bel gTens hlt3 hvx2) hz2
  have hv2 : DataW.TrodVars enc Tryz.prog W' (fun b => decide (b < W.heap.size)) ["loop.example/g00007/impl.signPairs", "loop.example/g00007/impl.limbTens"] [d2, d3] (MemPlace.row ⟨0, 0, none⟩ cs2.size ++ p2 ++ (MemPlace.row ⟨2, 0, none⟩ cs3.size ++ p3)) :=
    ⟨_, _, cs2, fl1, p2, _, gSigns, tSigns, var?_below bel gSigns hlt2 hvx1, hz1, hv3, rfl⟩
  have hv' : DataW.TrodVars enc Tryz.prog W' (fun b => decide (b < W.heap.size)) ["loop.example/g00007/impl.noSteps", "loop.example/g00007/impl.signPairs", "loop.example/g00007/impl.limbTens"] [d, d2, d3] (MemPlace.row ⟨1, 0, none⟩ cs.size ++ p' ++ (MemPlace.row ⟨0, 0, none⟩ cs2.size ++ p2 ++ (MemPlace.row ⟨2, 0, none⟩ cs3.size ++ p3))) :=
    ⟨_, _, cs, fl0, p', _, gSteps, tSteps, var?_below bel gSteps hlt1 hvx0, hz0, hv2, rfl⟩
  exact ⟨_, rfl, _, _, _, [], [], _, hW', trodAll_mk1 (shut_bool Tryz.underlying4 _), (trodAll_cons_mk (shut_string Tryz.underlying9 w0) trodAll_mk0), hv', bel.frame _, fun h => by cases h⟩

theorem over : Rows.fnExactRatFloorRow.holds Tryz.pinned (OpenSpec.ofChange Rows.fnExactRatFloorSpec) :=
  OpenClaim.holds_of_wide 10 Tryz.f10 rfl rfl rfl rfl rfl rfl rfl ⟨rfl, rfl, rfl, rfl, rfl⟩ rfl rfl rfl rfl rfl (by kernel_rfl) Tryz.func10 (by kernel_rfl)
    (of_decide_eq_true (by kernel_rfl)) (by unfold Func.isWrapper; first | (rw [if_pos (by decide +kernel)]; kernel_rfl) | (rw [if_neg (by decide +kernel)]; exact ⟨rfl, rfl⟩))
    (fun os started H enc _ => lifted os started H enc)
theorem plain (f : FuncId) (fn : Func) (hf : Tryz.pinned.checked.prog.funcNamed "loop.example/g00007/laws.FnExactRatFloor" = some f) (hfn : Tryz.pinned.checked.prog.funcs[f]? = some fn) :
    false = Tryz.pinned.checked.prog.looks [] ∧ ∀ (j : Nat) t, fn.params[j]? = some t → Tryz.pinned.checked.prog.wantsStandIn t = false := by
  obtain rfl : f = 10 := Option.some.inj ((show Tryz.prog.funcNamed "loop.example/g00007/laws.FnExactRatFloor" = some 10 by kernel_rfl).symm.trans hf) |>.symm
  obtain rfl : fn = Tryz.f10 := (Option.some.inj (Tryz.func10.symm.trans hfn)).symm
  refine ⟨by kernel_rfl, fun j t ht => ?_⟩
  rw [Tryz.params10] at ht
  obtain rfl : t = 9 := by simpa using Array.mem_of_getElem? ht
  exact (show Tryz.prog.wantsStandIn 9 = false by kernel_rfl)
end Go.Proofs.YtpjnglcojamfmaaGreatDoor.fnExactRatFloor
namespace Go.Proofs.YtpjnglcojamfmaaGreatDoor
theorem fnExactRatFloor_holds : Rows.FnExactRatFloorCardSaid :=
  Claim7.holds_tied_plain_at .later [] _ _ _ _ fnExactRatFloor.over (fun _ h => by cases h) (by kernel_rfl) (fun _ h => by cases h) fnExactRatFloor_row_tie rfl ⟨rfl, rfl⟩ (by kernel_rfl) rfl fnExactRatFloor.plain (by kernel_rfl)
#print axioms fnExactRatFloor_holds
end Go.Proofs.YtpjnglcojamfmaaGreatDoor
