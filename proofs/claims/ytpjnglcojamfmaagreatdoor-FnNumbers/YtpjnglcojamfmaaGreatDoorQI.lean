import Derived.Test.YtpjnglcojamfmaaGreatDoorK1
import Derived.Test.YtpjnglcojamfmaaGreatDoorTimes
import Derived.Deep.RegionHeld3
import Derived.Test.YtpjnglcojamfmaaGreatDoorRatF
namespace Go.Proofs.YtpjnglcojamfmaaGreatDoor
open Go.ChangeShapes Go.WideShapes Go.ChangeAt Go.RowKit
theorem compareI_any (B : Nat) (za zb : Value) (x y : Int) (n m : Nat) (w : World) (ha : IsI B w za x n) (hb : IsI B w zb y m) (h : SP w) :
    Calls Tryz.prog 45 #[za, zb] w fun e w' => e = .returned (.int .i64 (ordI x y)) ∧ Below w.heap.size w w' := by
  obtain ⟨na, va, a, rfl, hva, ta, rfl, _⟩ := ha
  obtain ⟨nb, vb, b, rfl, hvb, tb, rfl, _⟩ := hb
  have oa : okL a := by obtain ⟨_, _, _, _, _, o, _⟩ := hva; exact o
  have ob : okL b := by obtain ⟨_, _, _, _, _, o, _⟩ := hvb; exact o
  refine (compare_any B _ _ va vb a b w hva hvb h).mono ?_
  rintro e w' ⟨rfl, hb⟩
  exact ⟨by rw [cmpI_ord na nb a b oa ob ta tb], hb⟩
/-- Two boxes of rationals. -/
structure BxQ (h : Nat) (W : World) (s1 : Bool) (p1 : Option Addr) (l1 c1 : Nat) (s2 : Bool) (p2 : Option Addr) (l2 c2 : Nat) (s3 : Bool) (p3 : Option Addr) (l3 c3 : Nat) (s4 : Bool) (p4 : Option Addr) (l4 c4 : Nat) : Prop where
  a : Bx W h [.bool s1, .slice p1 l1 c1, .bool s2, .slice p2 l2 c2]
  b : Bx W (h + 1) [.bool s3, .slice p3 l3 c3, .bool s4, .slice p4 l4 c4]
theorem BxQ.below {h N : Nat} {W W' : World} {s1 : Bool} {p1 : Option Addr} {l1 c1 : Nat} {s2 : Bool} {p2 : Option Addr} {l2 c2 : Nat} {s3 : Bool} {p3 : Option Addr} {l3 c3 : Nat} {s4 : Bool} {p4 : Option Addr} {l4 c4 : Nat} (m : BxQ h W s1 p1 l1 c1 s2 p2 l2 c2 s3 p3 l3 c3 s4 p4 l4 c4) (hN : h + 2 ≤ N) (hb : Below N W W') : BxQ h W' s1 p1 l1 c1 s2 p2 l2 c2 s3 p3 l3 c3 s4 p4 l4 c4 :=
  ⟨m.a.below (by omega) hb, m.b.below (by omega) hb⟩
theorem BxQ.held {h : Nat} {W : World} {s1 : Bool} {p1 : Option Addr} {l1 c1 : Nat} {s2 : Bool} {p2 : Option Addr} {l2 c2 : Nat} {s3 : Bool} {p3 : Option Addr} {l3 c3 : Nat} {s4 : Bool} {p4 : Option Addr} {l4 c4 : Nat} (m : BxQ h W s1 p1 l1 c1 s2 p2 l2 c2 s3 p3 l3 c3 s4 p4 l4 c4) : W.cell? ⟨h, 0, none⟩ = some (.bool s1) ∧ W.cell? ⟨h, 1, none⟩ = some (.slice p1 l1 c1) ∧ W.cell? ⟨h, 2, none⟩ = some (.bool s2) ∧ W.cell? ⟨h, 3, none⟩ = some (.slice p2 l2 c2) ∧ W.cell? ⟨h + 1, 0, none⟩ = some (.bool s3) ∧ W.cell? ⟨h + 1, 1, none⟩ = some (.slice p3 l3 c3) ∧ W.cell? ⟨h + 1, 2, none⟩ = some (.bool s4) ∧ W.cell? ⟨h + 1, 3, none⟩ = some (.slice p4 l4 c4) :=
  ⟨m.a.cell 0, m.a.cell 1, m.a.cell 2, m.a.cell 3, m.b.cell 0, m.b.cell 1, m.b.cell 2, m.b.cell 3⟩
set_option maxRecDepth 100000 in
set_option maxHeartbeats 4000000 in
theorem compareQ_any (B : Nat) (za zb : Value) (x1 y1 x2 y2 : Int) (n : Nat) (w : World) (_hBw : B ≤ w.heap.size) (ha : IsQR B w za x1 y1 n) (hb : IsQR B w zb x2 y2 n) (hn : n ≤ 10000) (hSP : SP w) :
    Calls Tryz.prog 82 #[za, zb] w fun e w' => e = .returned (.int .i64 (ordI (x1 * y2) (x2 * y1))) ∧ Below w.heap.size w w' := by
  obtain ⟨s1, p1, l1, c1, s2, p2, l2, c2, rfl, h1, h2⟩ := ha.shape
  obtain ⟨s3, p3, l3, c3, s4, p4, l4, c4, rfl, h3, h4⟩ := hb.shape
  have H1 := hidG h1
  have H2 := hidG h2
  have H3 := hidG h3
  have H4 := hidG h4
  have HSP := hidG hSP
  clear ha hb h1 h2 h3 h4 hSP
  obtain ⟨W0, hW0⟩ : ∃ W0, (w.alloc (.cells #[.bool s1, .slice p1 l1 c1, .bool s2, .slice p2 l2 c2] 65)).alloc (.cells #[.bool s3, .slice p3 l3 c3, .bool s4, .slice p4 l4 c4] 65) = W0 := ⟨_, rfl⟩
  have HW0 := hidG hW0
  have HB0 : Hid (Below w.heap.size w W0) := by show Below w.heap.size w W0; rw [← hW0]; exact below_al (below_alloc _ _) _
  have hx0 : BxQ w.heap.size W0 s1 p1 l1 c1 s2 p2 l2 c2 s3 p3 l3 c3 s4 p4 l4 c4 := by
    refine ⟨?_, ?_⟩
    · rw [← hW0]; exact (bx_new w _ _).alloc _
    · rw [← hW0]
      have h := bx_new (w.alloc (.cells #[.bool s1, .slice p1 l1 c1, .bool s2, .slice p2 l2 c2] 65)) [.bool s3, .slice p3 l3 c3, .bool s4, .slice p4 l4 c4] 65
      rw [World.size_alloc] at h
      exact h
  have HX : Hid (∀ W, Below W0.heap.size W0 W → BxQ w.heap.size W s1 p1 l1 c1 s2 p2 l2 c2 s3 p3 l3 c3 s4 p4 l4 c4) := fun W hW => hx0.below hx0.b.lt hW
  have T1 : Hid (∀ W, Below W0.heap.size W0 W → Calls Tryz.prog 113 #[.agg #[.bool s1, .slice p1 l1 c1], .agg #[.bool s4, .slice p4 l4 c4]] W (fun e w' => ∃ z, e = .returned z ∧ IsI 0 w' z (x1 * y2) (n + n) ∧ Below W.heap.size W w')) := fun W hW => by
    refine (times_any B _ _ _ _ n n W ((H1.out.below HB0.out).below hW) ((H4.out.below HB0.out).below hW) (by omega) (by omega) ((HSP.out.below HB0.out).below hW)).mono ?_
    rintro e w' ⟨z, rfl, hz, hb⟩
    exact ⟨z, rfl, hz.mono (Nat.zero_le _) (Nat.le_refl _), hb⟩
  have T2 : Hid (∀ W, Below W0.heap.size W0 W → Calls Tryz.prog 113 #[.agg #[.bool s3, .slice p3 l3 c3], .agg #[.bool s2, .slice p2 l2 c2]] W (fun e w' => ∃ z, e = .returned z ∧ IsI 0 w' z (x2 * y1) (n + n) ∧ Below W.heap.size W w')) := fun W hW => by
    refine (times_any B _ _ _ _ n n W ((H3.out.below HB0.out).below hW) ((H2.out.below HB0.out).below hW) (by omega) (by omega) ((HSP.out.below HB0.out).below hW)).mono ?_
    rintro e w' ⟨z, rfl, hz, hb⟩
    exact ⟨z, rfl, hz.mono (Nat.zero_le _) (Nat.le_refl _), hb⟩
  have k0 := hx0.a.cell 0
  have k1 := hx0.a.cell 1
  have k2 := hx0.a.cell 2
  have k3 := hx0.a.cell 3
  simp only [List.getElem?_cons_zero, List.getElem?_cons_succ] at k0 k1 k2 k3
  have j0 := hx0.b.cell 0
  have j1 := hx0.b.cell 1
  have j2 := hx0.b.cell 2
  have j3 := hx0.b.cell 3
  simp only [List.getElem?_cons_zero, List.getElem?_cons_succ] at j0 j1 j2 j3
  clear hW0 hx0
  go_enter Tryz.func82, Tryz.ntmps82
  go_upto_region 1 with fail
  rw [HW0.out]
  go_wp2_with fail
  go_region_held3 (fun W => W.cell? ⟨w.heap.size, 0, none⟩ = some (.bool s1) ∧ W.cell? ⟨w.heap.size, 1, none⟩ = some (.slice p1 l1 c1) ∧ W.cell? ⟨w.heap.size, 2, none⟩ = some (.bool s2) ∧ W.cell? ⟨w.heap.size, 3, none⟩ = some (.slice p2 l2 c2) ∧ W.cell? ⟨w.heap.size + 1, 0, none⟩ = some (.bool s3) ∧ W.cell? ⟨w.heap.size + 1, 1, none⟩ = some (.slice p3 l3 c3) ∧ W.cell? ⟨w.heap.size + 1, 2, none⟩ = some (.bool s4) ∧ W.cell? ⟨w.heap.size + 1, 3, none⟩ = some (.slice p4 l4 c4)) (first | assumption | go_keep) (first
    | (go_at_call_of 113 (Value.slice p1 l1 c1)
       refine (T1.out _ ?_).mono ?_
       · exact (Below.refl _ W0).drew
       rintro e wa ⟨u, rfl, hu, hba⟩
       have HU := hidG hu
       have HBA : Hid (Below W0.heap.size W0 wa) := (Below.refl _ W0).drew.trans hba
       have hSa := (HX.out wa HBA.out).held
       clear hu hba)
    | (go_at_call_of 113 (Value.slice p3 l3 c3)
       refine (T2.out _ ?_).mono ?_
       · exact HBA.out
       rintro e wb ⟨v, rfl, hv, hbb⟩
       have HV := hidG hv
       have HBB := hidG (HBA.out.trans (hbb.mono HBA.out.size))
       have HU2 := hidG (HU.out.below hbb)
       have hSb := (HX.out wb HBB.out).held
       clear hv hbb)
    | (go_at_call 45
       refine (compareI_any 0 _ _ _ _ _ _ _ HU2.out HV.out ((HSP.out.below HB0.out).below HBB.out)).mono ?_
       rintro e wc ⟨rfl, hbc⟩
       have hSc := (HX.out wc (HBB.out.trans (hbc.mono HBB.out.size))).held
       have HBC := hidG (HB0.out.trans ((HBB.out.trans (hbc.mono HBB.out.size)).mono HB0.out.size))
       clear hbc))
  all_goals
    go_wp2
    go_ret
    exact ⟨rfl, HBC.out⟩
end Go.Proofs.YtpjnglcojamfmaaGreatDoor
namespace Go.Proofs.YtpjnglcojamfmaaGreatDoor
open Go.ChangeShapes Go.WideShapes Go.ChangeAt Go.RowKit
theorem IsI.setC {B : Nat} {w : World} {z : Value} {x : Int} {n : Nat} (h : IsI B w z x n) (p : Addr) (u : Value) (hp : p.block < B) : IsI B (w.setCell p u) z x n := by
  obtain ⟨neg, v, t, e, hL, r⟩ := h
  exact ⟨neg, v, t, e, hL.setCell p u hp, r⟩
theorem IsQR.setC {B : Nat} {w : World} {z : Value} {x y : Int} {n : Nat} (h : IsQR B w z x y n) (p : Addr) (u : Value) (hp : p.block < B) : IsQR B (w.setCell p u) z x y n := by
  obtain ⟨s1, v1, s2, v2, e, h1, h2⟩ := h
  exact ⟨s1, v1, s2, v2, e, h1.setC p u hp, h2.setC p u hp⟩
theorem ReadR.setC {B : Nat} {w : World} {s : ByteArray} {k : Option Nat} {z : Value} {ok : Bool} (h : ReadR B w s k z ok) (p : Addr) (u : Value) (hp : p.block < B) : ReadR B (w.setCell p u) s k z ok :=
  ⟨h.1, h.2.1, fun ho => by obtain ⟨x, y, hv, hq⟩ := h.2.2 ho; exact ⟨x, y, hv, hq.setC p u hp⟩⟩
theorem ReadR.below {B : Nat} {w w' : World} {s : ByteArray} {k : Option Nat} {z : Value} {ok : Bool} (h : ReadR B w s k z ok) (hb : Below w.heap.size w w') : ReadR B w' s k z ok :=
  ⟨h.1, h.2.1, fun ho => by obtain ⟨x, y, hv, hq⟩ := h.2.2 ho; exact ⟨x, y, hv, hq.below hb⟩⟩
theorem ReadR.mono {B B' : Nat} {w : World} {s : ByteArray} {k : Option Nat} {z : Value} {ok : Bool} (h : ReadR B w s k z ok) (hb : B' ≤ B) : ReadR B' w s k z ok :=
  ⟨h.1, h.2.1, fun ho => by obtain ⟨x, y, hv, hq⟩ := h.2.2 ho; exact ⟨x, y, hv, hq.mono hb (Nat.le_refl _)⟩⟩
theorem ReadR.drew {B : Nat} {w : World} {s : ByteArray} {k : Option Nat} {z : Value} {ok : Bool} (h : ReadR B w s k z ok) : ReadR B w.drew s k z ok := h.below (Below.refl _ w).drew
theorem ReadR.put {B : Nat} {w : World} {s : ByteArray} {k : Option Nat} {z : Value} {ok : Bool} (h : ReadR B w s k z ok) (g : Nat) (hg : g < B) (u0 u1 u2 u3 : Value) : ReadR B ((((w.setCell ⟨g, 0, none⟩ u0).setCell ⟨g, 1, none⟩ u1).setCell ⟨g, 2, none⟩ u2).setCell ⟨g, 3, none⟩ u3) s k z ok :=
  (((h.setC _ _ hg).setC _ _ hg).setC _ _ hg).setC _ _ hg
theorem below_put {N : Nat} {w W : World} (h : Below N w W) (g : Nat) (hg : N ≤ g) (u0 u1 u2 u3 : Value) : Below N w ((((W.setCell ⟨g, 0, none⟩ u0).setCell ⟨g, 1, none⟩ u1).setCell ⟨g, 2, none⟩ u2).setCell ⟨g, 3, none⟩ u3) :=
  (((h.setCell hg _).setCell hg _).setCell hg _).setCell hg _
set_option maxRecDepth 100000 in
set_option maxHeartbeats 4000000 in
theorem readRationals_any (s t : ByteArray) (k m : Option Nat) (w : World) (hs : s.size ≤ maxLen) (ht : t.size ≤ maxLen) (hk : IsCut s k) (hm : IsCut t m) (hSP : SP w) (hNS : NS w) (hLT : LT w) :
    Calls Tryz.prog 57 #[.string s, .string t] w fun e w' => ∃ z z' o o', e = .returned (.tuple #[z, z', .bool (o && o')]) ∧ ReadR w.heap.size w' s k z o ∧ ReadR w.heap.size w' t m z' o' ∧ Below w.heap.size w w' := by
  have HSP := hidG hSP
  have HNS := hidG hNS
  have HLT := hidG hLT
  have HK := hidG hk
  have HM := hidG hm
  clear hSP hNS hLT hk hm
  obtain ⟨W0, hW0⟩ : ∃ W0, (w.alloc (.cells #[.bool false, .slice none 0 0, .bool false, .slice none 0 0] 65)).alloc (.cells #[.bool false, .slice none 0 0, .bool false, .slice none 0 0] 65) = W0 := ⟨_, rfl⟩
  have HW0 := hidG hW0
  have hz0 : W0.heap.size = w.heap.size + 2 := by rw [← hW0]; simp
  have HB0 : Hid (Below w.heap.size w W0) := by show Below w.heap.size w W0; rw [← hW0]; exact below_al (below_alloc _ _) _
  have hxA : Bx W0 w.heap.size [.bool false, .slice none 0 0, .bool false, .slice none 0 0] := by rw [← hW0]; exact (bx_new w _ _).alloc _
  have hxB : Bx W0 (w.heap.size + 1) [.bool false, .slice none 0 0, .bool false, .slice none 0 0] := by
    rw [← hW0]
    have h := bx_new (w.alloc (.cells #[.bool false, .slice none 0 0, .bool false, .slice none 0 0] 65)) [.bool false, .slice none 0 0, .bool false, .slice none 0 0] 65
    rw [World.size_alloc] at h
    exact h
  have HX0 : Hid (∀ W, Below W0.heap.size W0 W → Bx W w.heap.size [.bool false, .slice none 0 0, .bool false, .slice none 0 0] ∧ Bx W (w.heap.size + 1) [.bool false, .slice none 0 0, .bool false, .slice none 0 0]) := fun W hW => ⟨hxA.below hxA.lt hW, hxB.below hxB.lt hW⟩
  clear hW0 hxA hxB
  go_enter Tryz.func57, Tryz.ntmps57
  go_wp2_with fail
  rw [HW0.out]
  refine (readRational_any s k W0 hs HK.out (HSP.out.below HB0.out) (HNS.out.below HB0.out) (HLT.out.below HB0.out)).mono ?_
  rintro e w1 ⟨z, o, rfl, hR1, hb1⟩
  obtain ⟨s1, p1, l1, c1, s2, p2, l2, c2, rfl⟩ := hR1.1
  obtain ⟨W1, hW1⟩ : ∃ W1, w1.alloc (.cells #[.bool s1, .slice p1 l1 c1, .bool s2, .slice p2 l2 c2] 65) = W1 := ⟨_, rfl⟩
  have HW1 := hidG hW1
  have HB1 : Hid (Below W0.heap.size W0 W1) := by show Below W0.heap.size W0 W1; rw [← hW1]; exact hb1.alloc hb1.size _
  have HR1 : Hid (ReadR W0.heap.size W1 s k (.agg #[.bool s1, .slice p1 l1 c1, .bool s2, .slice p2 l2 c2]) o) := by show ReadR _ _ _ _ _ _; rw [← hW1]; exact hR1.below (below_alloc _ _)
  have hx1 : Bx W1 w1.heap.size [.bool s1, .slice p1 l1 c1, .bool s2, .slice p2 l2 c2] := by rw [← hW1]; exact bx_new w1 _ _
  have HX1 : Hid (∀ W, Below W1.heap.size W1 W → Bx W w1.heap.size [.bool s1, .slice p1 l1 c1, .bool s2, .slice p2 l2 c2]) := fun W hW => hx1.below hx1.lt hW
  have HBW1 : Hid (Below w.heap.size w W1) := HB0.out.trans (HB1.out.mono HB0.out.size)
  have hz1 : W1.heap.size = w1.heap.size + 1 := by rw [← hW1]; simp
  have hle1 : w.heap.size + 2 ≤ w1.heap.size := by have := hb1.size; omega
  clear hW1 hx1 hb1 hR1
  go_wp2_with fail
  rw [HW1.out]
  refine (readRational_any t m W1 ht HM.out (HSP.out.below HBW1.out) (HNS.out.below HBW1.out) (HLT.out.below HBW1.out)).mono ?_
  rintro e w2 ⟨z', o', rfl, hR2, hb2⟩
  obtain ⟨s3, p3, l3, c3, s4, p4, l4, c4, rfl⟩ := hR2.1
  obtain ⟨W2, hW2⟩ : ∃ W2, w2.alloc (.cells #[.bool s3, .slice p3 l3 c3, .bool s4, .slice p4 l4 c4] 65) = W2 := ⟨_, rfl⟩
  have HW2 := hidG hW2
  have HB2 : Hid (Below W1.heap.size W1 W2) := by show Below W1.heap.size W1 W2; rw [← hW2]; exact hb2.alloc hb2.size _
  have HR2 : Hid (ReadR (w.heap.size + 2) W2 t m (.agg #[.bool s3, .slice p3 l3 c3, .bool s4, .slice p4 l4 c4]) o') := by
    show ReadR _ _ _ _ _ _
    have h1 : ReadR W1.heap.size W2 t m (.agg #[.bool s3, .slice p3 l3 c3, .bool s4, .slice p4 l4 c4]) o' := by rw [← hW2]; exact hR2.below (below_alloc _ _)
    exact h1.mono (by have := HB1.out.size; omega)
  have HR1' : Hid (ReadR (w.heap.size + 2) W2 s k (.agg #[.bool s1, .slice p1 l1 c1, .bool s2, .slice p2 l2 c2]) o) := by
    have h1 := HR1.out.below HB2.out
    rw [hz0] at h1; exact h1
  have hx2 : Bx W2 w2.heap.size [.bool s3, .slice p3 l3 c3, .bool s4, .slice p4 l4 c4] := by rw [← hW2]; exact bx_new w2 _ _
  have hx1 := HX1.out W2 HB2.out
  have HBW2 : Hid (Below w.heap.size w W2) := HBW1.out.trans (HB2.out.mono HBW1.out.size)
  have hxz := HX0.out W2 (HB1.out.trans (HB2.out.mono HB1.out.size))
  have k0 := hx1.cell 0
  have k1 := hx1.cell 1
  have k2 := hx1.cell 2
  have k3 := hx1.cell 3
  simp only [List.getElem?_cons_zero, List.getElem?_cons_succ] at k0 k1 k2 k3
  have j0 := hx2.cell 0
  have j1 := hx2.cell 1
  have j2 := hx2.cell 2
  have j3 := hx2.cell 3
  simp only [List.getElem?_cons_zero, List.getElem?_cons_succ] at j0 j1 j2 j3
  have q0 := hxz.1.cell 0
  have q1 := hxz.1.cell 1
  have q2 := hxz.1.cell 2
  have q3 := hxz.1.cell 3
  simp only [List.getElem?_cons_zero, List.getElem?_cons_succ] at q0 q1 q2 q3
  have r0 := hxz.2.cell 0
  have r1 := hxz.2.cell 1
  have r2 := hxz.2.cell 2
  have r3 := hxz.2.cell 3
  simp only [List.getElem?_cons_zero, List.getElem?_cons_succ] at r0 r1 r2 r3
  have f0 := hxz.1.frozen 0
  have f1 := hxz.1.frozen 1
  have f2 := hxz.1.frozen 2
  have f3 := hxz.1.frozen 3
  have g0 := hxz.2.frozen 0
  have g1 := hxz.2.frozen 1
  have g2 := hxz.2.frozen 2
  have g3 := hxz.2.frozen 3
  have hle2 : w1.heap.size + 1 ≤ w2.heap.size := by have := hb2.size; omega
  clear hW2 hx2 hx1 hxz hb2 hR2
  cases o
  · go_wp2
    rw [HW2.out]
    go_region
    go_wp2
    refine bodyPost_ret (v := .tuple #[.agg #[.bool s1, .slice p1 l1 c1, .bool s2, .slice p2 l2 c2], .agg #[.bool s3, .slice p3 l3 c3, .bool s4, .slice p4 l4 c4], .bool (false && o')]) ?_ rfl ⟨_, _, false, o', rfl, ?_, ?_, ?_⟩
    · simp [results, Tryz.results57, go_sem, q0, q1, q2, q3, r0, r1, r2, r3]
    · exact (((HR1'.out.put w.heap.size (by omega) (.bool s1) (.slice p1 l1 c1) (.bool s2) (.slice p2 l2 c2)).put (w.heap.size + 1) (by omega) (.bool s3) (.slice p3 l3 c3) (.bool s4) (.slice p4 l4 c4)).mono (by omega)).drew
    · exact (((HR2.out.put w.heap.size (by omega) (.bool s1) (.slice p1 l1 c1) (.bool s2) (.slice p2 l2 c2)).put (w.heap.size + 1) (by omega) (.bool s3) (.slice p3 l3 c3) (.bool s4) (.slice p4 l4 c4)).mono (by omega)).drew
    · exact (below_put (below_put HBW2.out w.heap.size (Nat.le_refl _) (.bool s1) (.slice p1 l1 c1) (.bool s2) (.slice p2 l2 c2)) (w.heap.size + 1) (Nat.le_succ _) (.bool s3) (.slice p3 l3 c3) (.bool s4) (.slice p4 l4 c4)).drew
  · go_wp2
    rw [HW2.out]
    go_region
    go_wp2
    refine bodyPost_ret (v := .tuple #[.agg #[.bool s1, .slice p1 l1 c1, .bool s2, .slice p2 l2 c2], .agg #[.bool s3, .slice p3 l3 c3, .bool s4, .slice p4 l4 c4], .bool (true && o')]) ?_ rfl ⟨_, _, true, o', rfl, ?_, ?_, ?_⟩
    · simp [results, Tryz.results57, go_sem, q0, q1, q2, q3, r0, r1, r2, r3]
    · exact (((HR1'.out.put w.heap.size (by omega) (.bool s1) (.slice p1 l1 c1) (.bool s2) (.slice p2 l2 c2)).put (w.heap.size + 1) (by omega) (.bool s3) (.slice p3 l3 c3) (.bool s4) (.slice p4 l4 c4)).mono (by omega)).drew
    · exact (((HR2.out.put w.heap.size (by omega) (.bool s1) (.slice p1 l1 c1) (.bool s2) (.slice p2 l2 c2)).put (w.heap.size + 1) (by omega) (.bool s3) (.slice p3 l3 c3) (.bool s4) (.slice p4 l4 c4)).mono (by omega)).drew
    · exact (below_put (below_put HBW2.out w.heap.size (Nat.le_refl _) (.bool s1) (.slice p1 l1 c1) (.bool s2) (.slice p2 l2 c2)) (w.heap.size + 1) (Nat.le_succ _) (.bool s3) (.slice p3 l3 c3) (.bool s4) (.slice p4 l4 c4)).drew
end Go.Proofs.YtpjnglcojamfmaaGreatDoor
namespace Go.Proofs.YtpjnglcojamfmaaGreatDoor
open Go.ChangeShapes Go.WideShapes Go.ChangeAt Go.RowKit
/-- Below so many limbs. -/
def lb (k : Nat) : Nat := 1000000000 ^ k
theorem lb_mul {a b : Nat} (k m : Nat) (ha : a < lb k) (hb : b < lb m) : a * b < lb (k + m) := by
  unfold lb at *
  rw [Nat.pow_add]
  exact Nat.mul_lt_mul'' ha hb
theorem lb_add {a b : Nat} (k : Nat) (ha : a < lb k) (hb : b < lb k) : a + b < lb (k + 1) := by
  unfold lb at *
  rw [Nat.pow_succ]
  omega
theorem lb_le {a : Nat} (k m : Nat) (h : k ≤ m) (ha : a < lb k) : a < lb m := Nat.lt_of_lt_of_le ha (Nat.pow_le_pow_right (by decide) h)
theorem lb_one (k : Nat) (h : 0 < k) : 1 < lb k := Nat.one_lt_pow (by omega) (by decide)
theorem len_lt (t : List Nat) (htr : isTrim t) (k : Nat) (h : val t < lb k) : t.length ≤ k := by
  by_cases hne : t = []
  · rw [hne]; exact Nat.zero_le _
  · have h1 := val_ge t htr hne
    have h2 : t.length - 1 < k := by
      rcases Nat.lt_or_ge (t.length - 1) k with h3 | h3
      · exact h3
      · have h4 := Nat.pow_le_pow_right (n := 1000000000) (by decide) h3
        unfold lb at h
        omega
    omega
theorem IsI.tight {B : Nat} {w : World} {z : Value} {x : Int} {n k : Nat} (h : IsI B w z x n) (hx : x.natAbs < lb k) : IsI B w z x k := by
  obtain ⟨neg, v, t, e, hL, ht, hv, _⟩ := h
  exact ⟨neg, v, t, e, hL, ht, hv, len_lt t ht k (by rw [← hv, sg_abs] at hx; exact hx)⟩
theorem IsQR.tight {B : Nat} {w : World} {z : Value} {x y : Int} {n k : Nat} (h : IsQR B w z x y n) (hx : x.natAbs < lb k) (hy : y.natAbs < lb k) : IsQR B w z x y k := by
  obtain ⟨s1, v1, s2, v2, e, h1, h2⟩ := h
  exact ⟨s1, v1, s2, v2, e, h1.tight hx, h2.tight hy⟩
theorem numZ_lt {B : Nat} {w : World} {z : Value} {v : Int} {k : Nat} (h : IsN B w z v) (hv : v.natAbs < lb k) : NumZ B w z v k := by
  obtain ⟨neg, t, hz, hx⟩ := h
  exact ⟨neg, t, hz, hx, len_lt t hz.2.1 k (by rw [← hx, sg_abs] at hv; exact hv)⟩
theorem numZ_le {B : Nat} {w : World} {z : Value} {v : Int} {k n : Nat} (h : NumZ B w z v k) (hn : k ≤ n) : NumZ B w z v n := by
  obtain ⟨neg, t, hz, hx, hl⟩ := h
  exact ⟨neg, t, hz, hx, Nat.le_trans hl hn⟩
theorem lim_ok (s : ByteArray) (h : isIntB s = true) : okL (lim s) := by
  unfold isIntB at h
  simp only [Bool.and_eq_true, Bool.or_eq_true, decide_eq_true_eq, Bool.not_eq_true', decide_eq_false_iff_not, List.all_eq_true] at h
  obtain ⟨⟨⟨h1, h2⟩, h3⟩, h4⟩ := h
  have hdig : ∀ c ∈ (dgs s).data.toList, dig c := fun c hc => by have := h3 c hc; unfold isDig at this; simpa [dig] using this
  exact trimL_ok _ (chunks_ok _ hdig)
theorem val_lb (t : List Nat) (ho : okL t) (k : Nat) (hk : t.length ≤ k) : val t < lb k := val_lt_of t ho k hk
theorem lim_lt (s : ByteArray) (h : isIntB s = true) : val (lim s) < lb 280 := val_lb (lim s) (lim_ok s h) 280 (lim_len' s h)
theorem numT_lt (s : ByteArray) (h : isIntB s = true) : (numT s).natAbs < lb 280 := by
  unfold numT
  rw [sg_abs]
  exact lim_lt s h
theorem ratV_lt {s : ByteArray} {k : Option Nat} {x y : Int} (h : RatV s k x y) : x.natAbs < lb 280 ∧ y.natAbs < lb 280 ∧ 0 < y := by
  cases k with
  | none =>
    refine ⟨by rw [h.2.1]; exact numT_lt s h.1, ?_, by rw [h.2.2]; decide⟩
    rw [h.2.2]
    exact lb_one 280 (by decide)
  | some i =>
    refine ⟨by rw [h.2.2.1]; exact numT_lt _ h.1.1, by rw [h.2.2.2]; exact numT_lt _ h.1.2, ?_⟩
    have h1 := numT_pos _ h.2.1.2.2.2.1
    have h2 := h.2.1.1
    rw [h.2.2.2]
    omega
theorem mul_lt {x y : Int} (hx : x.natAbs < lb 280) (hy : y.natAbs < lb 280) : (x * y).natAbs < lb 560 := by
  rw [Int.natAbs_mul]
  exact lb_mul 280 280 hx hy
theorem add_lt {x y : Int} (hx : x.natAbs < lb 560) (hy : y.natAbs < lb 560) : (x + y).natAbs < lb 561 := by
  exact Nat.lt_of_le_of_lt (Int.natAbs_add_le x y) (lb_add 560 hx hy)
/-- Two boxes of rationals and one for the answer. -/
structure BxR (h : Nat) (W : World) (s1 : Bool) (p1 : Option Addr) (l1 c1 : Nat) (s2 : Bool) (p2 : Option Addr) (l2 c2 : Nat) (s3 : Bool) (p3 : Option Addr) (l3 c3 : Nat) (s4 : Bool) (p4 : Option Addr) (l4 c4 : Nat) : Prop where
  a : Bx W h [.bool s1, .slice p1 l1 c1, .bool s2, .slice p2 l2 c2]
  b : Bx W (h + 1) [.bool s3, .slice p3 l3 c3, .bool s4, .slice p4 l4 c4]
  r : Bx W (h + 1 + 1) [.bool false, .slice none 0 0, .bool false, .slice none 0 0]
theorem BxR.below {h N : Nat} {W W' : World} {s1 : Bool} {p1 : Option Addr} {l1 c1 : Nat} {s2 : Bool} {p2 : Option Addr} {l2 c2 : Nat} {s3 : Bool} {p3 : Option Addr} {l3 c3 : Nat} {s4 : Bool} {p4 : Option Addr} {l4 c4 : Nat} (m : BxR h W s1 p1 l1 c1 s2 p2 l2 c2 s3 p3 l3 c3 s4 p4 l4 c4) (hN : h + 3 ≤ N) (hb : Below N W W') : BxR h W' s1 p1 l1 c1 s2 p2 l2 c2 s3 p3 l3 c3 s4 p4 l4 c4 :=
  ⟨m.a.below (by omega) hb, m.b.below (by omega) hb, m.r.below (by omega) hb⟩
theorem BxR.held {h : Nat} {W : World} {s1 : Bool} {p1 : Option Addr} {l1 c1 : Nat} {s2 : Bool} {p2 : Option Addr} {l2 c2 : Nat} {s3 : Bool} {p3 : Option Addr} {l3 c3 : Nat} {s4 : Bool} {p4 : Option Addr} {l4 c4 : Nat} (m : BxR h W s1 p1 l1 c1 s2 p2 l2 c2 s3 p3 l3 c3 s4 p4 l4 c4) : W.cell? ⟨h, 0, none⟩ = some (.bool s1) ∧ W.cell? ⟨h, 1, none⟩ = some (.slice p1 l1 c1) ∧ W.cell? ⟨h, 2, none⟩ = some (.bool s2) ∧ W.cell? ⟨h, 3, none⟩ = some (.slice p2 l2 c2) ∧ W.cell? ⟨h + 1, 0, none⟩ = some (.bool s3) ∧ W.cell? ⟨h + 1, 1, none⟩ = some (.slice p3 l3 c3) ∧ W.cell? ⟨h + 1, 2, none⟩ = some (.bool s4) ∧ W.cell? ⟨h + 1, 3, none⟩ = some (.slice p4 l4 c4) :=
  ⟨m.a.cell 0, m.a.cell 1, m.a.cell 2, m.a.cell 3, m.b.cell 0, m.b.cell 1, m.b.cell 2, m.b.cell 3⟩
theorem cell_far4 {W : World} {a : Addr} {v : Value} (g : Nat) (h : W.cell? a = some v) (hg : g ≠ a.block) (u0 u1 u2 u3 : Value) : ((((W.setCell ⟨g, 0, none⟩ u0).setCell ⟨g, 1, none⟩ u1).setCell ⟨g, 2, none⟩ u2).setCell ⟨g, 3, none⟩ u3).cell? a = some v := by
  rw [World.cell?_setCell_far _ _ _ _ hg, World.cell?_setCell_far _ _ _ _ hg, World.cell?_setCell_far _ _ _ _ hg, World.cell?_setCell_far _ _ _ _ hg]
  exact h
theorem held_put {h : Nat} {W : World} {s1 : Bool} {p1 : Option Addr} {l1 c1 : Nat} {s2 : Bool} {p2 : Option Addr} {l2 c2 : Nat} {s3 : Bool} {p3 : Option Addr} {l3 c3 : Nat} {s4 : Bool} {p4 : Option Addr} {l4 c4 : Nat} (m : W.cell? ⟨h, 0, none⟩ = some (.bool s1) ∧ W.cell? ⟨h, 1, none⟩ = some (.slice p1 l1 c1) ∧ W.cell? ⟨h, 2, none⟩ = some (.bool s2) ∧ W.cell? ⟨h, 3, none⟩ = some (.slice p2 l2 c2) ∧ W.cell? ⟨h + 1, 0, none⟩ = some (.bool s3) ∧ W.cell? ⟨h + 1, 1, none⟩ = some (.slice p3 l3 c3) ∧ W.cell? ⟨h + 1, 2, none⟩ = some (.bool s4) ∧ W.cell? ⟨h + 1, 3, none⟩ = some (.slice p4 l4 c4)) (g : Nat) (h0 : g ≠ h) (h1 : g ≠ h + 1) (u0 u1 u2 u3 : Value) : ((((W.setCell ⟨g, 0, none⟩ u0).setCell ⟨g, 1, none⟩ u1).setCell ⟨g, 2, none⟩ u2).setCell ⟨g, 3, none⟩ u3).cell? ⟨h, 0, none⟩ = some (.bool s1) ∧ ((((W.setCell ⟨g, 0, none⟩ u0).setCell ⟨g, 1, none⟩ u1).setCell ⟨g, 2, none⟩ u2).setCell ⟨g, 3, none⟩ u3).cell? ⟨h, 1, none⟩ = some (.slice p1 l1 c1) ∧ ((((W.setCell ⟨g, 0, none⟩ u0).setCell ⟨g, 1, none⟩ u1).setCell ⟨g, 2, none⟩ u2).setCell ⟨g, 3, none⟩ u3).cell? ⟨h, 2, none⟩ = some (.bool s2) ∧ ((((W.setCell ⟨g, 0, none⟩ u0).setCell ⟨g, 1, none⟩ u1).setCell ⟨g, 2, none⟩ u2).setCell ⟨g, 3, none⟩ u3).cell? ⟨h, 3, none⟩ = some (.slice p2 l2 c2) ∧ ((((W.setCell ⟨g, 0, none⟩ u0).setCell ⟨g, 1, none⟩ u1).setCell ⟨g, 2, none⟩ u2).setCell ⟨g, 3, none⟩ u3).cell? ⟨h + 1, 0, none⟩ = some (.bool s3) ∧ ((((W.setCell ⟨g, 0, none⟩ u0).setCell ⟨g, 1, none⟩ u1).setCell ⟨g, 2, none⟩ u2).setCell ⟨g, 3, none⟩ u3).cell? ⟨h + 1, 1, none⟩ = some (.slice p3 l3 c3) ∧ ((((W.setCell ⟨g, 0, none⟩ u0).setCell ⟨g, 1, none⟩ u1).setCell ⟨g, 2, none⟩ u2).setCell ⟨g, 3, none⟩ u3).cell? ⟨h + 1, 2, none⟩ = some (.bool s4) ∧ ((((W.setCell ⟨g, 0, none⟩ u0).setCell ⟨g, 1, none⟩ u1).setCell ⟨g, 2, none⟩ u2).setCell ⟨g, 3, none⟩ u3).cell? ⟨h + 1, 3, none⟩ = some (.slice p4 l4 c4) :=
  ⟨cell_far4 g m.1 h0 _ _ _ _, cell_far4 g m.2.1 h0 _ _ _ _, cell_far4 g m.2.2.1 h0 _ _ _ _, cell_far4 g m.2.2.2.1 h0 _ _ _ _, cell_far4 g m.2.2.2.2.1 h1 _ _ _ _, cell_far4 g m.2.2.2.2.2.1 h1 _ _ _ _, cell_far4 g m.2.2.2.2.2.2.1 h1 _ _ _ _, cell_far4 g m.2.2.2.2.2.2.2 h1 _ _ _ _⟩
set_option maxRecDepth 100000 in
set_option maxHeartbeats 8000000 in
theorem timesQ_any (B : Nat) (za zb : Value) (x1 y1 x2 y2 : Int) (w : World) (ha : IsQR B w za x1 y1 280) (hb : IsQR B w zb x2 y2 280) (hd : y1 * y2 ≠ 0) (hSP : SP w) (hNS : NS w) :
    Calls Tryz.prog 65 #[za, zb] w fun e w' => ∃ z p q, e = .returned z ∧ IsQR 0 w' z p q 564 ∧ IsLow (x1 * x2) (y1 * y2) p q ∧ Below w.heap.size w w' := by
  obtain ⟨s1, p1, l1, c1, s2, p2, l2, c2, rfl, h1, h2⟩ := ha.shape
  obtain ⟨s3, p3, l3, c3, s4, p4, l4, c4, rfl, h3, h4⟩ := hb.shape
  have H1 := hidG h1
  have H2 := hidG h2
  have H3 := hidG h3
  have H4 := hidG h4
  have HSP := hidG hSP
  have HNS := hidG hNS
  have HD := hidG hd
  clear ha hb h1 h2 h3 h4 hSP hNS hd
  obtain ⟨W0, hW0⟩ : ∃ W0, ((w.alloc (.cells #[.bool s1, .slice p1 l1 c1, .bool s2, .slice p2 l2 c2] 65)).alloc (.cells #[.bool s3, .slice p3 l3 c3, .bool s4, .slice p4 l4 c4] 65)).alloc (.cells #[.bool false, .slice none 0 0, .bool false, .slice none 0 0] 65) = W0 := ⟨_, rfl⟩
  have HW0 := hidG hW0
  have HB0 : Hid (Below w.heap.size w W0) := by show Below w.heap.size w W0; rw [← hW0]; exact below_al (below_al (below_alloc _ _) _) _
  have hx0 : BxR w.heap.size W0 s1 p1 l1 c1 s2 p2 l2 c2 s3 p3 l3 c3 s4 p4 l4 c4 := by
    refine ⟨?_, ?_, ?_⟩
    · rw [← hW0]; exact ((bx_new w _ _).alloc _).alloc _
    · rw [← hW0]
      have h := bx_new (w.alloc (.cells #[.bool s1, .slice p1 l1 c1, .bool s2, .slice p2 l2 c2] 65)) [.bool s3, .slice p3 l3 c3, .bool s4, .slice p4 l4 c4] 65
      rw [World.size_alloc] at h
      exact h.alloc _
    · rw [← hW0]
      have h := bx_new ((w.alloc (.cells #[.bool s1, .slice p1 l1 c1, .bool s2, .slice p2 l2 c2] 65)).alloc (.cells #[.bool s3, .slice p3 l3 c3, .bool s4, .slice p4 l4 c4] 65)) [.bool false, .slice none 0 0, .bool false, .slice none 0 0] 65
      rw [World.size_alloc, World.size_alloc] at h
      exact h
  have HX : Hid (∀ W, Below W0.heap.size W0 W → BxR w.heap.size W s1 p1 l1 c1 s2 p2 l2 c2 s3 p3 l3 c3 s4 p4 l4 c4) := fun W hW => hx0.below hx0.r.lt hW
  have T1 : Hid (∀ W, Below W0.heap.size W0 W → Calls Tryz.prog 113 #[.agg #[.bool s1, .slice p1 l1 c1], .agg #[.bool s3, .slice p3 l3 c3]] W (fun e w' => ∃ z, e = .returned z ∧ IsI 0 w' z (x1 * x2) 560 ∧ Below W.heap.size W w')) := fun W hW => by
    refine (times_any B _ _ _ _ 280 280 W ((H1.out.below HB0.out).below hW) ((H3.out.below HB0.out).below hW) (by omega) (by omega) ((HSP.out.below HB0.out).below hW)).mono ?_
    rintro e w' ⟨z, rfl, hz, hb⟩
    exact ⟨z, rfl, hz.mono (Nat.zero_le _) (Nat.le_refl _), hb⟩
  have T2 : Hid (∀ W, Below W0.heap.size W0 W → Calls Tryz.prog 113 #[.agg #[.bool s2, .slice p2 l2 c2], .agg #[.bool s4, .slice p4 l4 c4]] W (fun e w' => ∃ z, e = .returned z ∧ IsI 0 w' z (y1 * y2) 560 ∧ Below W.heap.size W w')) := fun W hW => by
    refine (times_any B _ _ _ _ 280 280 W ((H2.out.below HB0.out).below hW) ((H4.out.below HB0.out).below hW) (by omega) (by omega) ((HSP.out.below HB0.out).below hW)).mono ?_
    rintro e w' ⟨z, rfl, hz, hb⟩
    exact ⟨z, rfl, hz.mono (Nat.zero_le _) (Nat.le_refl _), hb⟩
  have k0 := hx0.a.cell 0
  have k1 := hx0.a.cell 1
  have k2 := hx0.a.cell 2
  have k3 := hx0.a.cell 3
  simp only [List.getElem?_cons_zero, List.getElem?_cons_succ] at k0 k1 k2 k3
  have j0 := hx0.b.cell 0
  have j1 := hx0.b.cell 1
  have j2 := hx0.b.cell 2
  have j3 := hx0.b.cell 3
  simp only [List.getElem?_cons_zero, List.getElem?_cons_succ] at j0 j1 j2 j3
  clear hW0 hx0
  go_enter Tryz.func65, Tryz.ntmps65
  go_upto_region 1 with fail
  rw [HW0.out]
  go_wp2_with fail
  go_region_held3 (fun W => W.cell? ⟨w.heap.size, 0, none⟩ = some (.bool s1) ∧ W.cell? ⟨w.heap.size, 1, none⟩ = some (.slice p1 l1 c1) ∧ W.cell? ⟨w.heap.size, 2, none⟩ = some (.bool s2) ∧ W.cell? ⟨w.heap.size, 3, none⟩ = some (.slice p2 l2 c2) ∧ W.cell? ⟨w.heap.size + 1, 0, none⟩ = some (.bool s3) ∧ W.cell? ⟨w.heap.size + 1, 1, none⟩ = some (.slice p3 l3 c3) ∧ W.cell? ⟨w.heap.size + 1, 2, none⟩ = some (.bool s4) ∧ W.cell? ⟨w.heap.size + 1, 3, none⟩ = some (.slice p4 l4 c4)) (first | with_reducible assumption | with_reducible exact held_put (by with_reducible assumption) (w.heap.size + 1 + 1) (by omega) (by omega) _ _ _ _ | go_keep) (first
    | (go_at_call_of 113 (Value.slice p1 l1 c1)
       refine (T1.out _ ?_).mono ?_
       · exact (Below.refl _ W0).drew
       rintro e wt1 ⟨u1, rfl, hu, hb⟩
       have HU1 := hidG hu
       have HQ1 : Hid (Below W0.heap.size W0 wt1) := (Below.refl _ W0).drew.trans hb
       have hS0 := (HX.out wt1 HQ1.out).held
       clear hu hb)
    | (go_at_call_of 113 (Value.slice p2 l2 c2)
       refine (T2.out _ ?_).mono ?_
       · exact HQ1.out
       rintro e wt2 ⟨u2, rfl, hu, hb⟩
       have HU2 := hidG hu
       have HQ2 : Hid (Below W0.heap.size W0 wt2) := HQ1.out.trans (hb.mono HQ1.out.size)
       have HV1 := hidG (HU1.out.below hb)
       have hS1 := (HX.out wt2 HQ2.out).held
       clear hu hb)
    | (go_at_call 112
       refine (makeRational_any 0 _ _ (x1 * x2) (y1 * y2) 560 _ (Nat.zero_le _) HV1.out (HU2.out.mono (Nat.le_refl _) (by omega)) HD.out (by omega) ((HSP.out.below HB0.out).below HQ2.out) ((HNS.out.below HB0.out).below HQ2.out)).mono ?_
       rintro e wm ⟨zr, p, q, rfl, hr, hlow, hb⟩
       have HR := hidG (hr.mono (Nat.le_refl _) (n' := 564) (by omega))
       have HLOW := hidG hlow
       have HQM : Hid (Below W0.heap.size W0 wm) := HQ2.out.trans (hb.mono HQ2.out.size)
       obtain ⟨t1, a1, e1, g1, t2, a2, e2, g2, rfl, _, _⟩ := hr.shape
       have hxa := HX.out wm HQM.out
       have hSm := hxa.held
       have r0 := hxa.r.cell 0
       have r1 := hxa.r.cell 1
       have r2 := hxa.r.cell 2
       have r3 := hxa.r.cell 3
       simp only [List.getElem?_cons_zero, List.getElem?_cons_succ] at r0 r1 r2 r3
       have f0 := hxa.r.frozen 0
       have f1 := hxa.r.frozen 1
       have f2 := hxa.r.frozen 2
       have f3 := hxa.r.frozen 3
       clear hr hlow hb hxa))
  all_goals
    try simp only [List.getElem_toArray, List.getElem_cons_succ, List.getElem_cons_zero, Act.put, List.setIfInBounds_toArray, List.set_cons_succ, List.set_cons_zero]
    go_wp2
    have hbw := (HX.out wm HQM.out).r
    have hnR : NoInt wm (w.heap.size + 1 + 1) := noInt_of hbw (by simp)
    have hD9 := HR.out.put4 hnR (.bool t1) (.slice a1 e1 g1) (.bool t2) (.slice a2 e2 g2)
    have hB9 := set4 (HB0.out.trans (HQM.out.mono HB0.out.size)) (w.heap.size + 1 + 1) (by omega) (.bool t1) (.slice a1 e1 g1) (.bool t2) (.slice a2 e2 g2)
    have hZ : Bx ((((wm.setCell ⟨w.heap.size + 1 + 1, 0, none⟩ (.bool t1)).setCell ⟨w.heap.size + 1 + 1, 1, none⟩ (.slice a1 e1 g1)).setCell ⟨w.heap.size + 1 + 1, 2, none⟩ (.bool t2)).setCell ⟨w.heap.size + 1 + 1, 3, none⟩ (.slice a2 e2 g2)) (w.heap.size + 1 + 1) [.bool t1, .slice a1 e1 g1, .bool t2, .slice a2 e2 g2] := (((hbw.set 0 _).set 1 _).set 2 _).set 3 _
    generalize (((wm.setCell ⟨w.heap.size + 1 + 1, 0, none⟩ (.bool t1)).setCell ⟨w.heap.size + 1 + 1, 1, none⟩ (.slice a1 e1 g1)).setCell ⟨w.heap.size + 1 + 1, 2, none⟩ (.bool t2)).setCell ⟨w.heap.size + 1 + 1, 3, none⟩ (.slice a2 e2 g2) = W9 at *
    have v0 := hZ.cell 0
    have v1 := hZ.cell 1
    have v2 := hZ.cell 2
    have v3 := hZ.cell 3
    simp only [List.getElem?_cons_zero, List.getElem?_cons_succ] at v0 v1 v2 v3
    refine bodyPost_ret (v := .agg #[.bool t1, .slice a1 e1 g1, .bool t2, .slice a2 e2 g2]) ?_ rfl ⟨_, p, q, rfl, hD9, HLOW.out, hB9⟩
    simp [results, Tryz.results65, go_sem, v0, v1, v2, v3]
end Go.Proofs.YtpjnglcojamfmaaGreatDoor
