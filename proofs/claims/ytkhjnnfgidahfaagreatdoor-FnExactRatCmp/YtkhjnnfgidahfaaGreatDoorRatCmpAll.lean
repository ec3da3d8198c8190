import Derived.Test.YtkhjnnfgidahfaaGreatDoorK1
import Derived.Test.YtkhjnnfgidahfaaGreatDoorTimes
import Derived.Deep.RegionHeld3
import Derived.Test.YtkhjnnfgidahfaaGreatDoorK2
import Derived.Test.YtkhjnnfgidahfaaGreatDoorRatK
import Derived.Test.YtkhjnnfgidahfaaGreatDoorMulSpec
import Derived.Test.YtkhjnnfgidahfaaGreatDoorRatF
import Derived.Test.YtkhjnnfgidahfaaGreatDoorRows
import Derived.Test.YtkhjnnfgidahfaaGreatDoorCards
import Derived.Test.YtkhjnnfgidahfaaGreatDoorTie
import Derived.Test.YtkhjnnfgidahfaaGreatDoorK3
import Derived.WalkKit
import Derived.ProofKit
import Derived.OpenShut
import Derived.ShutString
import Derived.ChangeOld
import Derived.ChangeVars
import Derived.Below
import Derived.WalkSmall
import Derived.LaidMore
import Derived.Lay
import Derived.Stop.Joined
import Derived.SevenTiedAt
namespace Go.Proofs.YtkhjnnfgidahfaaGreatDoor
open Go.ChangeShapes Go.WideShapes Go.ChangeAt Go.RowKit
theorem compareI_any (B : Nat) (za zb : Value) (x y : Int) (n m : Nat) (w : World) (ha : IsI B w za x n) (hb : IsI B w zb y m) (h : SP w) :
    Calls Tryz.prog 42 #[za, zb] w fun e w' => e = .returned (.int .i64 (ordI x y)) ∧ Below w.heap.size w w' := by
  obtain ⟨na, va, a, rfl, hva, ta, rfl, _⟩ := ha
  obtain ⟨nb, vb, b, rfl, hvb, tb, rfl, _⟩ := hb
  have oa : okL a := by obtain ⟨_, _, _, _, _, o, _⟩ := hva; exact o
  have ob : okL b := by obtain ⟨_, _, _, _, _, o, _⟩ := hvb; exact o
  refine (compare_any B _ _ va vb a b w hva hvb h).mono ?_
  rintro e w' ⟨rfl, hb⟩
  exact ⟨by rw [cmpI_ord na nb a b oa ob ta tb], hb⟩
/-- Two boxes of rationals. -/
structure BxQ (h : Nat) (W : World) (s1 : Bool) (p1 : Option Addr) (l1 c1 : Nat) (s2 : Bool) (p2 : Option Addr) (l2 c2 : Nat) (s3 : Bool) (p3 : Option Addr) (l3 c3 : Nat) (s4 : Bool) (p4 : Option Addr) (l4 c4 : Nat) : Prop where
  a : Bx W h [.bool s1, .slice p1 l1 c1, .bool s2, .slice p2 l2 c2]
  b : Bx W (h + 1) [.bool s3, .slice p3 l3 c3, .bool s4, .slice p4 l4 c4]
theorem BxQ.below {h N : Nat} {W W' : World} {s1 : Bool} {p1 : Option Addr} {l1 c1 : Nat} {s2 : Bool} {p2 : Option Addr} {l2 c2 : Nat} {s3 : Bool} {p3 : Option Addr} {l3 c3 : Nat} {s4 : Bool} {p4 : Option Addr} {l4 c4 : Nat} (m : BxQ h W s1 p1 l1 c1 s2 p2 l2 c2 s3 p3 l3 c3 s4 p4 l4 c4) (hN : h + 2 ≤ N) (hb : Below N W W') : BxQ h W' s1 p1 l1 c1 s2 p2 l2 c2 s3 p3 l3 c3 s4 p4 l4 c4 :=
  ⟨m.a.below (by omega) hb, m.b.below (by omega) hb⟩
theorem BxQ.held {h : Nat} {W : World} {s1 : Bool} {p1 : Option Addr} {l1 c1 : Nat} {s2 : Bool} {p2 : Option Addr} {l2 c2 : Nat} {s3 : Bool} {p3 : Option Addr} {l3 c3 : Nat} {s4 : Bool} {p4 : Option Addr} {l4 c4 : Nat} (m : BxQ h W s1 p1 l1 c1 s2 p2 l2 c2 s3 p3 l3 c3 s4 p4 l4 c4) : W.cell? ⟨h, 0, none⟩ = some (.bool s1) ∧ W.cell? ⟨h, 1, none⟩ = some (.slice p1 l1 c1) ∧ W.cell? ⟨h, 2, none⟩ = some (.bool s2) ∧ W.cell? ⟨h, 3, none⟩ = some (.slice p2 l2 c2) ∧ W.cell? ⟨h + 1, 0, none⟩ = some (.bool s3) ∧ W.cell? ⟨h + 1, 1, none⟩ = some (.slice p3 l3 c3) ∧ W.cell? ⟨h + 1, 2, none⟩ = some (.bool s4) ∧ W.cell? ⟨h + 1, 3, none⟩ = some (.slice p4 l4 c4) :=
  ⟨m.a.cell 0, m.a.cell 1, m.a.cell 2, m.a.cell 3, m.b.cell 0, m.b.cell 1, m.b.cell 2, m.b.cell 3⟩
set_option maxRecDepth 100000 in
set_option maxHeartbeats 4000000 in
theorem compareQ_any (B : Nat) (za zb : Value) (x1 y1 x2 y2 : Int) (n : Nat) (w : World) (_hBw : B ≤ w.heap.size) (ha : IsQR B w za x1 y1 n) (hb : IsQR B w zb x2 y2 n) (hn : n ≤ 10000) (hSP : SP w) :
    Calls Tryz.prog 79 #[za, zb] w fun e w' => e = .returned (.int .i64 (ordI (x1 * y2) (x2 * y1))) ∧ Below w.heap.size w w' := by
  obtain ⟨s1, p1, l1, c1, s2, p2, l2, c2, rfl, h1, h2⟩ := ha.shape
  obtain ⟨s3, p3, l3, c3, s4, p4, l4, c4, rfl, h3, h4⟩ := hb.shape
  have H1 := hidG h1
  have H2 := hidG h2
  have H3 := hidG h3
  have H4 := hidG h4
  have HSP := hidG hSP
  clear ha hb h1 h2 h3 h4 hSP
  obtain ⟨W0, hW0⟩ : ∃ W0, (w.alloc (.cells #[.bool s1, .slice p1 l1 c1, .bool s2, .slice p2 l2 c2] 64)).alloc (.cells #[.bool s3, .slice p3 l3 c3, .bool s4, .slice p4 l4 c4] 64) = W0 := ⟨_, rfl⟩
  have HW0 := hidG hW0
  have HB0 : Hid (Below w.heap.size w W0) := by show Below w.heap.size w W0; rw [← hW0]; exact below_al (below_alloc _ _) _
  have hx0 : BxQ w.heap.size W0 s1 p1 l1 c1 s2 p2 l2 c2 s3 p3 l3 c3 s4 p4 l4 c4 := by
    refine ⟨?_, ?_⟩
    · rw [← hW0]; exact (bx_new w _ _).alloc _
    · rw [← hW0]
      have h := bx_new (w.alloc (.cells #[.bool s1, .slice p1 l1 c1, .bool s2, .slice p2 l2 c2] 64)) [.bool s3, .slice p3 l3 c3, .bool s4, .slice p4 l4 c4] 64
      rw [World.size_alloc] at h
      exact h
  have HX : Hid (∀ W, Below W0.heap.size W0 W → BxQ w.heap.size W s1 p1 l1 c1 s2 p2 l2 c2 s3 p3 l3 c3 s4 p4 l4 c4) := fun W hW => hx0.below hx0.b.lt hW
  have T1 : Hid (∀ W, Below W0.heap.size W0 W → Calls Tryz.prog 109 #[.agg #[.bool s1, .slice p1 l1 c1], .agg #[.bool s4, .slice p4 l4 c4]] W (fun e w' => ∃ z, e = .returned z ∧ IsI 0 w' z (x1 * y2) (n + n) ∧ Below W.heap.size W w')) := fun W hW => by
    refine (times_any B _ _ _ _ n n W ((H1.out.below HB0.out).below hW) ((H4.out.below HB0.out).below hW) (by omega) (by omega) ((HSP.out.below HB0.out).below hW)).mono ?_
    rintro e w' ⟨z, rfl, hz, hb⟩
    exact ⟨z, rfl, hz.mono (Nat.zero_le _) (Nat.le_refl _), hb⟩
  have T2 : Hid (∀ W, Below W0.heap.size W0 W → Calls Tryz.prog 109 #[.agg #[.bool s3, .slice p3 l3 c3], .agg #[.bool s2, .slice p2 l2 c2]] W (fun e w' => ∃ z, e = .returned z ∧ IsI 0 w' z (x2 * y1) (n + n) ∧ Below W.heap.size W w')) := fun W hW => by
    refine (times_any B _ _ _ _ n n W ((H3.out.below HB0.out).below hW) ((H2.out.below HB0.out).below hW) (by omega) (by omega) ((HSP.out.below HB0.out).below hW)).mono ?_
    rintro e w' ⟨z, rfl, hz, hb⟩
    exact ⟨z, rfl, hz.mono (Nat.zero_le _) (Nat.le_refl _), hb⟩
  have k0 := hx0.a.cell 0
  have k1 := hx0.a.cell 1
  have k2 := hx0.a.cell 2
  have k3 := hx0.a.cell 3
  simp only [List.getElem?_cons_zero, List.getElem?_cons_succ] at k0 k1 k2 k3
  have j0 := hx0.b.cell 0
  have j1 := hx0.b.cell 1
  have j2 := hx0.b.cell 2
  have j3 := hx0.b.cell 3
  simp only [List.getElem?_cons_zero, List.getElem?_cons_succ] at j0 j1 j2 j3
  clear hW0 hx0
  go_enter Tryz.func79, Tryz.ntmps79
  go_upto_region 1 with fail
  rw [HW0.out]
  go_wp2_with fail
  go_region_held3 (fun W => W.cell? ⟨w.heap.size, 0, none⟩ = some (.bool s1) ∧ W.cell? ⟨w.heap.size, 1, none⟩ = some (.slice p1 l1 c1) ∧ W.cell? ⟨w.heap.size, 2, none⟩ = some (.bool s2) ∧ W.cell? ⟨w.heap.size, 3, none⟩ = some (.slice p2 l2 c2) ∧ W.cell? ⟨w.heap.size + 1, 0, none⟩ = some (.bool s3) ∧ W.cell? ⟨w.heap.size + 1, 1, none⟩ = some (.slice p3 l3 c3) ∧ W.cell? ⟨w.heap.size + 1, 2, none⟩ = some (.bool s4) ∧ W.cell? ⟨w.heap.size + 1, 3, none⟩ = some (.slice p4 l4 c4)) (first | assumption | go_keep) (first
    | (go_at_call_of 109 (Value.slice p1 l1 c1)
       refine (T1.out _ ?_).mono ?_
       · exact (Below.refl _ W0).drew
       rintro e wa ⟨u, rfl, hu, hba⟩
       have HU := hidG hu
       have HBA : Hid (Below W0.heap.size W0 wa) := (Below.refl _ W0).drew.trans hba
       have hSa := (HX.out wa HBA.out).held
       clear hu hba)
    | (go_at_call_of 109 (Value.slice p3 l3 c3)
       refine (T2.out _ ?_).mono ?_
       · exact HBA.out
       rintro e wb ⟨v, rfl, hv, hbb⟩
       have HV := hidG hv
       have HBB := hidG (HBA.out.trans (hbb.mono HBA.out.size))
       have HU2 := hidG (HU.out.below hbb)
       have hSb := (HX.out wb HBB.out).held
       clear hv hbb)
    | (go_at_call 42
       refine (compareI_any 0 _ _ _ _ _ _ _ HU2.out HV.out ((HSP.out.below HB0.out).below HBB.out)).mono ?_
       rintro e wc ⟨rfl, hbc⟩
       have hSc := (HX.out wc (HBB.out.trans (hbc.mono HBB.out.size))).held
       have HBC := hidG (HB0.out.trans ((HBB.out.trans (hbc.mono HBB.out.size)).mono HB0.out.size))
       clear hbc))
  all_goals
    go_wp2
    go_ret
    exact ⟨rfl, HBC.out⟩
end Go.Proofs.YtkhjnnfgidahfaaGreatDoor
namespace Go.Proofs.YtkhjnnfgidahfaaGreatDoor
open Go.ChangeShapes Go.WideShapes Go.ChangeAt Go.RowKit
/-- Two boxes of the specification's rationals. -/
structure BxS (h : Nat) (W : World) (a0 : Int) (an : Bool) (aa : Option Addr) (al ac : Nat) (b0 : Int) (bn : Bool) (ba : Option Addr) (bl bc : Nat) (d0 : Int) (dn : Bool) (da : Option Addr) (dl dc : Nat) (e0 : Int) (en : Bool) (ea : Option Addr) (el ec : Nat) : Prop where
  a : Bx W h [.int .i64 a0, .bool an, .slice aa al ac, .int .i64 b0, .bool bn, .slice ba bl bc]
  b : Bx W (h + 1) [.int .i64 d0, .bool dn, .slice da dl dc, .int .i64 e0, .bool en, .slice ea el ec]
theorem BxS.below {h N : Nat} {W W' : World} {a0 : Int} {an : Bool} {aa : Option Addr} {al ac : Nat} {b0 : Int} {bn : Bool} {ba : Option Addr} {bl bc : Nat} {d0 : Int} {dn : Bool} {da : Option Addr} {dl dc : Nat} {e0 : Int} {en : Bool} {ea : Option Addr} {el ec : Nat} (m : BxS h W a0 an aa al ac b0 bn ba bl bc d0 dn da dl dc e0 en ea el ec) (hN : h + 2 ≤ N) (hb : Below N W W') : BxS h W' a0 an aa al ac b0 bn ba bl bc d0 dn da dl dc e0 en ea el ec :=
  ⟨m.a.below (by omega) hb, m.b.below (by omega) hb⟩
theorem BxS.held {h : Nat} {W : World} {a0 : Int} {an : Bool} {aa : Option Addr} {al ac : Nat} {b0 : Int} {bn : Bool} {ba : Option Addr} {bl bc : Nat} {d0 : Int} {dn : Bool} {da : Option Addr} {dl dc : Nat} {e0 : Int} {en : Bool} {ea : Option Addr} {el ec : Nat} (m : BxS h W a0 an aa al ac b0 bn ba bl bc d0 dn da dl dc e0 en ea el ec) : W.cell? ⟨h, 0, none⟩ = some (.int .i64 a0) ∧ W.cell? ⟨h, 1, none⟩ = some (.bool an) ∧ W.cell? ⟨h, 2, none⟩ = some (.slice aa al ac) ∧ W.cell? ⟨h, 3, none⟩ = some (.int .i64 b0) ∧ W.cell? ⟨h, 4, none⟩ = some (.bool bn) ∧ W.cell? ⟨h, 5, none⟩ = some (.slice ba bl bc) ∧ W.cell? ⟨h + 1, 0, none⟩ = some (.int .i64 d0) ∧ W.cell? ⟨h + 1, 1, none⟩ = some (.bool dn) ∧ W.cell? ⟨h + 1, 2, none⟩ = some (.slice da dl dc) ∧ W.cell? ⟨h + 1, 3, none⟩ = some (.int .i64 e0) ∧ W.cell? ⟨h + 1, 4, none⟩ = some (.bool en) ∧ W.cell? ⟨h + 1, 5, none⟩ = some (.slice ea el ec) :=
  ⟨m.a.cell 0, m.a.cell 1, m.a.cell 2, m.a.cell 3, m.a.cell 4, m.a.cell 5, m.b.cell 0, m.b.cell 1, m.b.cell 2, m.b.cell 3, m.b.cell 4, m.b.cell 5⟩
theorem l1MulN_any (B : Nat) (za zb : Value) (x y : Int) (n m : Nat) (w : World) (hBw : B ≤ w.heap.size) (ha : NumZ B w za x n) (hb : NumZ B w zb y m) (hn : n ≤ 100000) (hm : m ≤ 100000) :
    Calls Tryz.prog 49 #[za, zb] w fun e w' => ∃ z, e = .returned z ∧ IsN 0 w' z (x * y) ∧ Below w.heap.size w w' := by
  obtain ⟨na, a, hza, rfl, hla⟩ := ha
  obtain ⟨nb, b, hzb, rfl, hlb⟩ := hb
  refine (l1Mul_any B za zb na nb a b w hBw hza hzb (by omega) (by omega)).mono ?_
  rintro e w' ⟨z, rfl, hz, hb⟩
  exact ⟨z, rfl, hz.mono (Nat.zero_le _), hb⟩
theorem l1CmpN_any (B : Nat) (za zb : Value) (x y : Int) (w : World) (hBw : B ≤ w.heap.size) (ha : IsN B w za x) (hb : IsN B w zb y) :
    Calls Tryz.prog 50 #[za, zb] w fun e w' => e = .returned (.int .i64 (ordI x y)) ∧ Below w.heap.size w w' := by
  obtain ⟨na, a, hza, rfl⟩ := ha
  obtain ⟨nb, b, hzb, rfl⟩ := hb
  refine (l1Cmp_any B za zb na nb a b w hBw hza hzb).mono ?_
  rintro e w' ⟨rfl, hb⟩
  exact ⟨by rw [cmpI_ord na nb a b hza.1 hzb.1 hza.2.1 hzb.2.1], hb⟩
set_option maxRecDepth 100000 in
set_option maxHeartbeats 4000000 in
theorem l2Cmp_any (B : Nat) (za zd : Value) (x1 y1 x2 y2 : Int) (w : World) (hBw : B ≤ w.heap.size) (ha : IsQN B w za x1 y1) (hd : IsQN B w zd x2 y2) :
    Calls Tryz.prog 78 #[za, zd] w fun e w' => e = .returned (.int .i64 (ordI (x1 * y2) (x2 * y1))) ∧ Below w.heap.size w w' := by
  have HQA := hidG ha
  have HQD := hidG hd
  obtain ⟨a0, an, aa, al, ac, b0, bn, ba, bl, bc, rfl, h1, h2⟩ := ha
  obtain ⟨d0, dn, da, dl, dc, e0, en, ea, el, ec, rfl, h3, h4⟩ := hd
  have H1 := hidG h1
  have H2 := hidG h2
  have H3 := hidG h3
  have H4 := hidG h4
  have HBW := hidG hBw
  clear h1 h2 h3 h4 hBw
  obtain ⟨W0, hW0⟩ : ∃ W0, (w.alloc (.cells #[.int .i64 a0, .bool an, .slice aa al ac, .int .i64 b0, .bool bn, .slice ba bl bc] 70)).alloc (.cells #[.int .i64 d0, .bool dn, .slice da dl dc, .int .i64 e0, .bool en, .slice ea el ec] 70) = W0 := ⟨_, rfl⟩
  have HW0 := hidG hW0
  have HB0 : Hid (Below w.heap.size w W0) := by show Below w.heap.size w W0; rw [← hW0]; exact below_al (below_alloc _ _) _
  have hx0 : BxS w.heap.size W0 a0 an aa al ac b0 bn ba bl bc d0 dn da dl dc e0 en ea el ec := by
    refine ⟨?_, ?_⟩
    · rw [← hW0]; exact (bx_new w _ _).alloc _
    · rw [← hW0]
      have h := bx_new (w.alloc (.cells #[.int .i64 a0, .bool an, .slice aa al ac, .int .i64 b0, .bool bn, .slice ba bl bc] 70)) [.int .i64 d0, .bool dn, .slice da dl dc, .int .i64 e0, .bool en, .slice ea el ec] 70
      rw [World.size_alloc] at h
      exact h
  have HX : Hid (∀ W, Below W0.heap.size W0 W → BxS w.heap.size W a0 an aa al ac b0 bn ba bl bc d0 dn da dl dc e0 en ea el ec) := fun W hW => hx0.below hx0.b.lt hW
  have T1 : Hid (∀ W, Below W0.heap.size W0 W → Calls Tryz.prog 49 #[.agg #[.int .i64 a0, .bool an, .slice aa al ac], .agg #[.int .i64 e0, .bool en, .slice ea el ec]] W (fun e w' => ∃ z, e = .returned z ∧ IsN 0 w' z (x1 * y2) ∧ Below W.heap.size W w')) := fun W hW =>
    l1MulN_any B _ _ _ _ 1000 1000 W (by have := HBW.out; have := HB0.out.size; have := hW.size; omega) ((H1.out.below HB0.out).below hW) ((H4.out.below HB0.out).below hW) (by omega) (by omega)
  have T2 : Hid (∀ W, Below W0.heap.size W0 W → Calls Tryz.prog 49 #[.agg #[.int .i64 d0, .bool dn, .slice da dl dc], .agg #[.int .i64 b0, .bool bn, .slice ba bl bc]] W (fun e w' => ∃ z, e = .returned z ∧ IsN 0 w' z (x2 * y1) ∧ Below W.heap.size W w')) := fun W hW =>
    l1MulN_any B _ _ _ _ 1000 1000 W (by have := HBW.out; have := HB0.out.size; have := hW.size; omega) ((H3.out.below HB0.out).below hW) ((H2.out.below HB0.out).below hW) (by omega) (by omega)
  have HC : Hid (∀ W, Below W0.heap.size W0 W → Calls Tryz.prog 50 #[.agg #[.int .i64 a0, .bool an, .slice aa al ac], .agg #[.int .i64 d0, .bool dn, .slice da dl dc]] W (fun e w' => e = .returned (.int .i64 (ordI x1 x2)) ∧ Below W.heap.size W w')) := fun W hW =>
    l1CmpN_any B _ _ _ _ W (by have := HBW.out; have := HB0.out.size; have := hW.size; omega) ((H1.out.below HB0.out).below hW).isN ((H3.out.below HB0.out).below hW).isN
  have k0 := hx0.a.cell 0
  have k1 := hx0.a.cell 1
  have k2 := hx0.a.cell 2
  have k3 := hx0.a.cell 3
  have k4 := hx0.a.cell 4
  have k5 := hx0.a.cell 5
  simp only [List.getElem?_cons_zero, List.getElem?_cons_succ] at k0 k1 k2 k3 k4 k5
  have j0 := hx0.b.cell 0
  have j1 := hx0.b.cell 1
  have j2 := hx0.b.cell 2
  have j3 := hx0.b.cell 3
  have j4 := hx0.b.cell 4
  have j5 := hx0.b.cell 5
  simp only [List.getElem?_cons_zero, List.getElem?_cons_succ] at j0 j1 j2 j3 j4 j5
  clear hW0 hx0
  go_enter Tryz.func78, Tryz.ntmps78
  go_upto_region 1 with fail
  rw [HW0.out]
  go_wp2_with fail
  refine (l2Whole_any B _ x1 y1 W0 (by have := HBW.out; have := HB0.out.size; omega) (HQA.out.below HB0.out)).mono ?_
  rintro e w1 ⟨rfl, hb1⟩
  have HQ1 := hidG hb1
  have hx := HX.out w1 hb1
  clear hb1 k0 k1 k2 k3 k4 k5 j0 j1 j2 j3 j4 j5
  have k0 := hx.a.cell 0
  have k1 := hx.a.cell 1
  have k2 := hx.a.cell 2
  have k3 := hx.a.cell 3
  have k4 := hx.a.cell 4
  have k5 := hx.a.cell 5
  simp only [List.getElem?_cons_zero, List.getElem?_cons_succ] at k0 k1 k2 k3 k4 k5
  have j0 := hx.b.cell 0
  have j1 := hx.b.cell 1
  have j2 := hx.b.cell 2
  have j3 := hx.b.cell 3
  have j4 := hx.b.cell 4
  have j5 := hx.b.cell 5
  simp only [List.getElem?_cons_zero, List.getElem?_cons_succ] at j0 j1 j2 j3 j4 j5
  clear hx
  by_cases hy1 : y1 = 1
  · have z : decide (y1 = 1) = true := decide_eq_true hy1
    have HY1 := hidG hy1
    rw [z]
    clear z hy1
    go_wp2_with fail
    refine (l2Whole_any B _ x2 y2 w1 (by have := HBW.out; have := HB0.out.size; have := HQ1.out.size; omega) ((HQD.out.below HB0.out).below HQ1.out)).mono ?_
    rintro e w2 ⟨rfl, hb2⟩
    have HQ2 := hidG (HQ1.out.trans (hb2.mono HQ1.out.size))
    have hx := HX.out w2 HQ2.out
    clear hb2 k0 k1 k2 k3 k4 k5 j0 j1 j2 j3 j4 j5
    have k0 := hx.a.cell 0
    have k1 := hx.a.cell 1
    have k2 := hx.a.cell 2
    have k3 := hx.a.cell 3
    have k4 := hx.a.cell 4
    have k5 := hx.a.cell 5
    simp only [List.getElem?_cons_zero, List.getElem?_cons_succ] at k0 k1 k2 k3 k4 k5
    have j0 := hx.b.cell 0
    have j1 := hx.b.cell 1
    have j2 := hx.b.cell 2
    have j3 := hx.b.cell 3
    have j4 := hx.b.cell 4
    have j5 := hx.b.cell 5
    simp only [List.getElem?_cons_zero, List.getElem?_cons_succ] at j0 j1 j2 j3 j4 j5
    clear hx
    by_cases hy2 : y2 = 1
    · have z : decide (y2 = 1) = true := decide_eq_true hy2
      have HE : Hid (ordI x1 x2 = ordI (x1 * y2) (x2 * y1)) := by show ordI x1 x2 = ordI (x1 * y2) (x2 * y1); rw [HY1.out, hy2, Int.mul_one, Int.mul_one]
      rw [z]
      clear z hy2
      go_wp2_with fail
      refine (HC.out w2 HQ2.out).mono ?_
      rintro e w3 ⟨rfl, hb3⟩
      have HB9 := hidG (HB0.out.trans ((HQ2.out.trans (hb3.mono HQ2.out.size)).mono HB0.out.size))
      clear hb3 k0 k1 k2 k3 k4 k5 j0 j1 j2 j3 j4 j5
      go_wp2
      go_ret
      exact ⟨ret_int HE.out, HB9.out⟩
    · have z : decide (y2 = 1) = false := decide_eq_false hy2
      rw [z]
      clear z hy2
      go_wp2_with fail
      go_region_held3 (fun W => W.cell? ⟨w.heap.size, 0, none⟩ = some (.int .i64 a0) ∧ W.cell? ⟨w.heap.size, 1, none⟩ = some (.bool an) ∧ W.cell? ⟨w.heap.size, 2, none⟩ = some (.slice aa al ac) ∧ W.cell? ⟨w.heap.size, 3, none⟩ = some (.int .i64 b0) ∧ W.cell? ⟨w.heap.size, 4, none⟩ = some (.bool bn) ∧ W.cell? ⟨w.heap.size, 5, none⟩ = some (.slice ba bl bc) ∧ W.cell? ⟨w.heap.size + 1, 0, none⟩ = some (.int .i64 d0) ∧ W.cell? ⟨w.heap.size + 1, 1, none⟩ = some (.bool dn) ∧ W.cell? ⟨w.heap.size + 1, 2, none⟩ = some (.slice da dl dc) ∧ W.cell? ⟨w.heap.size + 1, 3, none⟩ = some (.int .i64 e0) ∧ W.cell? ⟨w.heap.size + 1, 4, none⟩ = some (.bool en) ∧ W.cell? ⟨w.heap.size + 1, 5, none⟩ = some (.slice ea el ec)) (first | assumption | go_keep) (first
        | (go_at_call_of 49 (Value.int IntKind.i64 a0)
           refine (T1.out _ ?_).mono ?_
           · exact HQ2.out.drew
           rintro e wa ⟨u, rfl, hu, hba⟩
           have HU := hidG hu
           have HBA : Hid (Below W0.heap.size W0 wa) := HQ2.out.drew.trans (hba.mono HQ2.out.size)
           have hSa := (HX.out wa HBA.out).held
           clear hu hba)
        | (go_at_call_of 49 (Value.int IntKind.i64 d0)
           refine (T2.out _ ?_).mono ?_
           · exact HBA.out
           rintro e wb ⟨v, rfl, hv, hbb⟩
           have HV := hidG hv
           have HBB := hidG (HBA.out.trans (hbb.mono HBA.out.size))
           have HU2 := hidG (HU.out.below hbb)
           have hSb := (HX.out wb HBB.out).held
           clear hv hbb)
        | (go_at_call 50
           refine (l1CmpN_any 0 _ _ _ _ _ (Nat.zero_le _) HU2.out HV.out).mono ?_
           rintro e wc ⟨rfl, hbc⟩
           have hSc := (HX.out wc (HBB.out.trans (hbc.mono HBB.out.size))).held
           have HBC := hidG (HB0.out.trans ((HBB.out.trans (hbc.mono HBB.out.size)).mono HB0.out.size))
           clear hbc))
      all_goals
        go_wp2
        go_ret
        exact ⟨rfl, HBC.out⟩
  · have z : decide (y1 = 1) = false := decide_eq_false hy1
    rw [z]
    clear z hy1
    go_wp2_with fail
    go_region_held3 (fun W => W.cell? ⟨w.heap.size, 0, none⟩ = some (.int .i64 a0) ∧ W.cell? ⟨w.heap.size, 1, none⟩ = some (.bool an) ∧ W.cell? ⟨w.heap.size, 2, none⟩ = some (.slice aa al ac) ∧ W.cell? ⟨w.heap.size, 3, none⟩ = some (.int .i64 b0) ∧ W.cell? ⟨w.heap.size, 4, none⟩ = some (.bool bn) ∧ W.cell? ⟨w.heap.size, 5, none⟩ = some (.slice ba bl bc) ∧ W.cell? ⟨w.heap.size + 1, 0, none⟩ = some (.int .i64 d0) ∧ W.cell? ⟨w.heap.size + 1, 1, none⟩ = some (.bool dn) ∧ W.cell? ⟨w.heap.size + 1, 2, none⟩ = some (.slice da dl dc) ∧ W.cell? ⟨w.heap.size + 1, 3, none⟩ = some (.int .i64 e0) ∧ W.cell? ⟨w.heap.size + 1, 4, none⟩ = some (.bool en) ∧ W.cell? ⟨w.heap.size + 1, 5, none⟩ = some (.slice ea el ec)) (first | assumption | go_keep) (first
      | (go_at_call_of 49 (Value.int IntKind.i64 a0)
         refine (T1.out _ ?_).mono ?_
         · exact HQ1.out.drew
         rintro e wa ⟨u, rfl, hu, hba⟩
         have HU := hidG hu
         have HBA : Hid (Below W0.heap.size W0 wa) := HQ1.out.drew.trans (hba.mono HQ1.out.size)
         have hSa := (HX.out wa HBA.out).held
         clear hu hba)
      | (go_at_call_of 49 (Value.int IntKind.i64 d0)
         refine (T2.out _ ?_).mono ?_
         · exact HBA.out
         rintro e wb ⟨v, rfl, hv, hbb⟩
         have HV := hidG hv
         have HBB := hidG (HBA.out.trans (hbb.mono HBA.out.size))
         have HU2 := hidG (HU.out.below hbb)
         have hSb := (HX.out wb HBB.out).held
         clear hv hbb)
      | (go_at_call 50
         refine (l1CmpN_any 0 _ _ _ _ _ (Nat.zero_le _) HU2.out HV.out).mono ?_
         rintro e wc ⟨rfl, hbc⟩
         have hSc := (HX.out wc (HBB.out.trans (hbc.mono HBB.out.size))).held
         have HBC := hidG (HB0.out.trans ((HBB.out.trans (hbc.mono HBB.out.size)).mono HB0.out.size))
         clear hbc))
    all_goals
      go_wp2
      go_ret
      exact ⟨rfl, HBC.out⟩
end Go.Proofs.YtkhjnnfgidahfaaGreatDoor
namespace Go.Proofs.YtkhjnnfgidahfaaGreatDoor
open Go.ChangeShapes Go.WideShapes Go.ChangeAt Go.RowKit
theorem IsI.setC {B : Nat} {w : World} {z : Value} {x : Int} {n : Nat} (h : IsI B w z x n) (p : Addr) (u : Value) (hp : p.block < B) : IsI B (w.setCell p u) z x n := by
  obtain ⟨neg, v, t, e, hL, r⟩ := h
  exact ⟨neg, v, t, e, hL.setCell p u hp, r⟩
theorem IsQR.setC {B : Nat} {w : World} {z : Value} {x y : Int} {n : Nat} (h : IsQR B w z x y n) (p : Addr) (u : Value) (hp : p.block < B) : IsQR B (w.setCell p u) z x y n := by
  obtain ⟨s1, v1, s2, v2, e, h1, h2⟩ := h
  exact ⟨s1, v1, s2, v2, e, h1.setC p u hp, h2.setC p u hp⟩
theorem ReadR.setC {B : Nat} {w : World} {s : ByteArray} {k : Option Nat} {z : Value} {ok : Bool} (h : ReadR B w s k z ok) (p : Addr) (u : Value) (hp : p.block < B) : ReadR B (w.setCell p u) s k z ok :=
  ⟨h.1, h.2.1, fun ho => by obtain ⟨x, y, hv, hq⟩ := h.2.2 ho; exact ⟨x, y, hv, hq.setC p u hp⟩⟩
theorem ReadR.below {B : Nat} {w w' : World} {s : ByteArray} {k : Option Nat} {z : Value} {ok : Bool} (h : ReadR B w s k z ok) (hb : Below w.heap.size w w') : ReadR B w' s k z ok :=
  ⟨h.1, h.2.1, fun ho => by obtain ⟨x, y, hv, hq⟩ := h.2.2 ho; exact ⟨x, y, hv, hq.below hb⟩⟩
theorem ReadR.mono {B B' : Nat} {w : World} {s : ByteArray} {k : Option Nat} {z : Value} {ok : Bool} (h : ReadR B w s k z ok) (hb : B' ≤ B) : ReadR B' w s k z ok :=
  ⟨h.1, h.2.1, fun ho => by obtain ⟨x, y, hv, hq⟩ := h.2.2 ho; exact ⟨x, y, hv, hq.mono hb (Nat.le_refl _)⟩⟩
theorem ReadR.drew {B : Nat} {w : World} {s : ByteArray} {k : Option Nat} {z : Value} {ok : Bool} (h : ReadR B w s k z ok) : ReadR B w.drew s k z ok := h.below (Below.refl _ w).drew
theorem ReadR.put {B : Nat} {w : World} {s : ByteArray} {k : Option Nat} {z : Value} {ok : Bool} (h : ReadR B w s k z ok) (g : Nat) (hg : g < B) (u0 u1 u2 u3 : Value) : ReadR B ((((w.setCell ⟨g, 0, none⟩ u0).setCell ⟨g, 1, none⟩ u1).setCell ⟨g, 2, none⟩ u2).setCell ⟨g, 3, none⟩ u3) s k z ok :=
  (((h.setC _ _ hg).setC _ _ hg).setC _ _ hg).setC _ _ hg
theorem below_put {N : Nat} {w W : World} (h : Below N w W) (g : Nat) (hg : N ≤ g) (u0 u1 u2 u3 : Value) : Below N w ((((W.setCell ⟨g, 0, none⟩ u0).setCell ⟨g, 1, none⟩ u1).setCell ⟨g, 2, none⟩ u2).setCell ⟨g, 3, none⟩ u3) :=
  (((h.setCell hg _).setCell hg _).setCell hg _).setCell hg _
set_option maxRecDepth 100000 in
set_option maxHeartbeats 4000000 in
theorem readRationals_any (s t : ByteArray) (k m : Option Nat) (w : World) (hs : s.size ≤ maxLen) (ht : t.size ≤ maxLen) (hk : IsCut s k) (hm : IsCut t m) (hSP : SP w) (hNS : NS w) (hLT : LT w) :
    Calls Tryz.prog 54 #[.string s, .string t] w fun e w' => ∃ z z' o o', e = .returned (.tuple #[z, z', .bool (o && o')]) ∧ ReadR w.heap.size w' s k z o ∧ ReadR w.heap.size w' t m z' o' ∧ Below w.heap.size w w' := by
  have HSP := hidG hSP
  have HNS := hidG hNS
  have HLT := hidG hLT
  have HK := hidG hk
  have HM := hidG hm
  clear hSP hNS hLT hk hm
  obtain ⟨W0, hW0⟩ : ∃ W0, (w.alloc (.cells #[.bool false, .slice none 0 0, .bool false, .slice none 0 0] 64)).alloc (.cells #[.bool false, .slice none 0 0, .bool false, .slice none 0 0] 64) = W0 := ⟨_, rfl⟩
  have HW0 := hidG hW0
  have hz0 : W0.heap.size = w.heap.size + 2 := by rw [← hW0]; simp
  have HB0 : Hid (Below w.heap.size w W0) := by show Below w.heap.size w W0; rw [← hW0]; exact below_al (below_alloc _ _) _
  have hxA : Bx W0 w.heap.size [.bool false, .slice none 0 0, .bool false, .slice none 0 0] := by rw [← hW0]; exact (bx_new w _ _).alloc _
  have hxB : Bx W0 (w.heap.size + 1) [.bool false, .slice none 0 0, .bool false, .slice none 0 0] := by
    rw [← hW0]
    have h := bx_new (w.alloc (.cells #[.bool false, .slice none 0 0, .bool false, .slice none 0 0] 64)) [.bool false, .slice none 0 0, .bool false, .slice none 0 0] 64
    rw [World.size_alloc] at h
    exact h
  have HX0 : Hid (∀ W, Below W0.heap.size W0 W → Bx W w.heap.size [.bool false, .slice none 0 0, .bool false, .slice none 0 0] ∧ Bx W (w.heap.size + 1) [.bool false, .slice none 0 0, .bool false, .slice none 0 0]) := fun W hW => ⟨hxA.below hxA.lt hW, hxB.below hxB.lt hW⟩
  clear hW0 hxA hxB
  go_enter Tryz.func54, Tryz.ntmps54
  go_wp2_with fail
  rw [HW0.out]
  refine (readRational_any s k W0 hs HK.out (HSP.out.below HB0.out) (HNS.out.below HB0.out) (HLT.out.below HB0.out)).mono ?_
  rintro e w1 ⟨z, o, rfl, hR1, hb1⟩
  obtain ⟨s1, p1, l1, c1, s2, p2, l2, c2, rfl⟩ := hR1.1
  obtain ⟨W1, hW1⟩ : ∃ W1, w1.alloc (.cells #[.bool s1, .slice p1 l1 c1, .bool s2, .slice p2 l2 c2] 64) = W1 := ⟨_, rfl⟩
  have HW1 := hidG hW1
  have HB1 : Hid (Below W0.heap.size W0 W1) := by show Below W0.heap.size W0 W1; rw [← hW1]; exact hb1.alloc hb1.size _
  have HR1 : Hid (ReadR W0.heap.size W1 s k (.agg #[.bool s1, .slice p1 l1 c1, .bool s2, .slice p2 l2 c2]) o) := by show ReadR _ _ _ _ _ _; rw [← hW1]; exact hR1.below (below_alloc _ _)
  have hx1 : Bx W1 w1.heap.size [.bool s1, .slice p1 l1 c1, .bool s2, .slice p2 l2 c2] := by rw [← hW1]; exact bx_new w1 _ _
  have HX1 : Hid (∀ W, Below W1.heap.size W1 W → Bx W w1.heap.size [.bool s1, .slice p1 l1 c1, .bool s2, .slice p2 l2 c2]) := fun W hW => hx1.below hx1.lt hW
  have HBW1 : Hid (Below w.heap.size w W1) := HB0.out.trans (HB1.out.mono HB0.out.size)
  have hz1 : W1.heap.size = w1.heap.size + 1 := by rw [← hW1]; simp
  have hle1 : w.heap.size + 2 ≤ w1.heap.size := by have := hb1.size; omega
  clear hW1 hx1 hb1 hR1
  go_wp2_with fail
  rw [HW1.out]
  refine (readRational_any t m W1 ht HM.out (HSP.out.below HBW1.out) (HNS.out.below HBW1.out) (HLT.out.below HBW1.out)).mono ?_
  rintro e w2 ⟨z', o', rfl, hR2, hb2⟩
  obtain ⟨s3, p3, l3, c3, s4, p4, l4, c4, rfl⟩ := hR2.1
  obtain ⟨W2, hW2⟩ : ∃ W2, w2.alloc (.cells #[.bool s3, .slice p3 l3 c3, .bool s4, .slice p4 l4 c4] 64) = W2 := ⟨_, rfl⟩
  have HW2 := hidG hW2
  have HB2 : Hid (Below W1.heap.size W1 W2) := by show Below W1.heap.size W1 W2; rw [← hW2]; exact hb2.alloc hb2.size _
  have HR2 : Hid (ReadR (w.heap.size + 2) W2 t m (.agg #[.bool s3, .slice p3 l3 c3, .bool s4, .slice p4 l4 c4]) o') := by
    show ReadR _ _ _ _ _ _
    have h1 : ReadR W1.heap.size W2 t m (.agg #[.bool s3, .slice p3 l3 c3, .bool s4, .slice p4 l4 c4]) o' := by rw [← hW2]; exact hR2.below (below_alloc _ _)
    exact h1.mono (by have := HB1.out.size; omega)
  have HR1' : Hid (ReadR (w.heap.size + 2) W2 s k (.agg #[.bool s1, .slice p1 l1 c1, .bool s2, .slice p2 l2 c2]) o) := by
    have h1 := HR1.out.below HB2.out
    rw [hz0] at h1; exact h1
  have hx2 : Bx W2 w2.heap.size [.bool s3, .slice p3 l3 c3, .bool s4, .slice p4 l4 c4] := by rw [← hW2]; exact bx_new w2 _ _
  have hx1 := HX1.out W2 HB2.out
  have HBW2 : Hid (Below w.heap.size w W2) := HBW1.out.trans (HB2.out.mono HBW1.out.size)
  have hxz := HX0.out W2 (HB1.out.trans (HB2.out.mono HB1.out.size))
  have k0 := hx1.cell 0
  have k1 := hx1.cell 1
  have k2 := hx1.cell 2
  have k3 := hx1.cell 3
  simp only [List.getElem?_cons_zero, List.getElem?_cons_succ] at k0 k1 k2 k3
  have j0 := hx2.cell 0
  have j1 := hx2.cell 1
  have j2 := hx2.cell 2
  have j3 := hx2.cell 3
  simp only [List.getElem?_cons_zero, List.getElem?_cons_succ] at j0 j1 j2 j3
  have q0 := hxz.1.cell 0
  have q1 := hxz.1.cell 1
  have q2 := hxz.1.cell 2
  have q3 := hxz.1.cell 3
  simp only [List.getElem?_cons_zero, List.getElem?_cons_succ] at q0 q1 q2 q3
  have r0 := hxz.2.cell 0
  have r1 := hxz.2.cell 1
  have r2 := hxz.2.cell 2
  have r3 := hxz.2.cell 3
  simp only [List.getElem?_cons_zero, List.getElem?_cons_succ] at r0 r1 r2 r3
  have f0 := hxz.1.frozen 0
  have f1 := hxz.1.frozen 1
  have f2 := hxz.1.frozen 2
  have f3 := hxz.1.frozen 3
  have g0 := hxz.2.frozen 0
  have g1 := hxz.2.frozen 1
  have g2 := hxz.2.frozen 2
  have g3 := hxz.2.frozen 3
  have hle2 : w1.heap.size + 1 ≤ w2.heap.size := by have := hb2.size; omega
  clear hW2 hx2 hx1 hxz hb2 hR2
  cases o
  · go_wp2
    rw [HW2.out]
    go_region
    go_wp2
    refine bodyPost_ret (v := .tuple #[.agg #[.bool s1, .slice p1 l1 c1, .bool s2, .slice p2 l2 c2], .agg #[.bool s3, .slice p3 l3 c3, .bool s4, .slice p4 l4 c4], .bool (false && o')]) ?_ rfl ⟨_, _, false, o', rfl, ?_, ?_, ?_⟩
    · simp [results, Tryz.results54, go_sem, q0, q1, q2, q3, r0, r1, r2, r3]
    · exact (((HR1'.out.put w.heap.size (by omega) (.bool s1) (.slice p1 l1 c1) (.bool s2) (.slice p2 l2 c2)).put (w.heap.size + 1) (by omega) (.bool s3) (.slice p3 l3 c3) (.bool s4) (.slice p4 l4 c4)).mono (by omega)).drew
    · exact (((HR2.out.put w.heap.size (by omega) (.bool s1) (.slice p1 l1 c1) (.bool s2) (.slice p2 l2 c2)).put (w.heap.size + 1) (by omega) (.bool s3) (.slice p3 l3 c3) (.bool s4) (.slice p4 l4 c4)).mono (by omega)).drew
    · exact (below_put (below_put HBW2.out w.heap.size (Nat.le_refl _) (.bool s1) (.slice p1 l1 c1) (.bool s2) (.slice p2 l2 c2)) (w.heap.size + 1) (Nat.le_succ _) (.bool s3) (.slice p3 l3 c3) (.bool s4) (.slice p4 l4 c4)).drew
  · go_wp2
    rw [HW2.out]
    go_region
    go_wp2
    refine bodyPost_ret (v := .tuple #[.agg #[.bool s1, .slice p1 l1 c1, .bool s2, .slice p2 l2 c2], .agg #[.bool s3, .slice p3 l3 c3, .bool s4, .slice p4 l4 c4], .bool (true && o')]) ?_ rfl ⟨_, _, true, o', rfl, ?_, ?_, ?_⟩
    · simp [results, Tryz.results54, go_sem, q0, q1, q2, q3, r0, r1, r2, r3]
    · exact (((HR1'.out.put w.heap.size (by omega) (.bool s1) (.slice p1 l1 c1) (.bool s2) (.slice p2 l2 c2)).put (w.heap.size + 1) (by omega) (.bool s3) (.slice p3 l3 c3) (.bool s4) (.slice p4 l4 c4)).mono (by omega)).drew
    · exact (((HR2.out.put w.heap.size (by omega) (.bool s1) (.slice p1 l1 c1) (.bool s2) (.slice p2 l2 c2)).put (w.heap.size + 1) (by omega) (.bool s3) (.slice p3 l3 c3) (.bool s4) (.slice p4 l4 c4)).mono (by omega)).drew
    · exact (below_put (below_put HBW2.out w.heap.size (Nat.le_refl _) (.bool s1) (.slice p1 l1 c1) (.bool s2) (.slice p2 l2 c2)) (w.heap.size + 1) (Nat.le_succ _) (.bool s3) (.slice p3 l3 c3) (.bool s4) (.slice p4 l4 c4)).drew
end Go.Proofs.YtkhjnnfgidahfaaGreatDoor
namespace Go.Proofs.YtkhjnnfgidahfaaGreatDoor
open Go.ChangeShapes Go.WideShapes Go.ChangeAt Go.RowKit
/-- What both sides of RatCmp answer. -/
def IsResC (s t : ByteArray) (r : Int) : Prop := ∃ k m, IsCut s k ∧ IsCut t m ∧ ((∃ x1 y1 x2 y2, RatV s k x1 y1 ∧ RatV t m x2 y2 ∧ r = ordI (x1 * y2) (x2 * y1)) ∨ (¬ ((∃ x y, RatV s k x y) ∧ ∃ x y, RatV t m x y) ∧ r = -2))
theorem ratV_one {s : ByteArray} {k : Option Nat} {x y x' y' : Int} (h : RatV s k x y) (h' : RatV s k x' y') : x = x' ∧ y = y' := by
  cases k with
  | none => exact ⟨h.2.1.trans h'.2.1.symm, h.2.2.trans h'.2.2.symm⟩
  | some i => exact ⟨h.2.2.1.trans h'.2.2.1.symm, h.2.2.2.trans h'.2.2.2.symm⟩
theorem IsResC.eq {s t : ByteArray} {u v : Int} (h : IsResC s t u) (h' : IsResC s t v) : u = v := by
  obtain ⟨k, m, hk, hm, h⟩ := h
  obtain ⟨k', m', hk', hm', h'⟩ := h'
  obtain rfl := isCut_unique hk hk'
  obtain rfl := isCut_unique hm hm'
  rcases h with ⟨x1, y1, x2, y2, h1, h2, h3⟩ | ⟨h1, h2⟩ <;> rcases h' with ⟨x1', y1', x2', y2', h1', h2', h3'⟩ | ⟨h1', h2'⟩
  · obtain ⟨rfl, rfl⟩ := ratV_one h1 h1'
    obtain ⟨rfl, rfl⟩ := ratV_one h2 h2'
    rw [h3, h3']
  · exact absurd ⟨⟨_, _, h1⟩, _, _, h2⟩ h1'
  · exact absurd ⟨⟨_, _, h1'⟩, _, _, h2'⟩ h1
  · rw [h2, h2']
theorem resC_no {s t : ByteArray} {k m : Option Nat} {o o' : Bool} (hk : IsCut s k) (hm : IsCut t m) (h1 : o = true ↔ ∃ x y, RatV s k x y) (h2 : o' = true ↔ ∃ x y, RatV t m x y) (h : (o && o') = false) : IsResC s t (-2) := by
  refine ⟨k, m, hk, hm, .inr ⟨fun hh => ?_, rfl⟩⟩
  have e1 := h1.2 hh.1
  have e2 := h2.2 hh.2
  rw [e1, e2] at h
  cases h
theorem qn_zero {B : Nat} {w : World} {z : Value} {x y : Int} (h : IsQN B w z x y) : IsQN 0 w z x y := by
  obtain ⟨p0, pn, pa, pl, pc, q0, qn, qa, ql, qc, e, h1, h2⟩ := h
  exact ⟨p0, pn, pa, pl, pc, q0, qn, qa, ql, qc, e, h1.mono (Nat.zero_le _), h2.mono (Nat.zero_le _)⟩
set_option maxRecDepth 100000 in
set_option maxHeartbeats 2000000 in
theorem implRatCmp_any (s t : ByteArray) (w : World) (hs : s.size ≤ maxLen) (ht : t.size ≤ maxLen) (hSP : SP w) (hNS : NS w) (hLT : LT w) :
    Calls Tryz.prog 35 #[.string s, .string t] w fun e w' => ∃ r, e = .returned (.int .i64 r) ∧ IsResC s t r ∧ Below w.heap.size w w' := by
  obtain ⟨k, hk⟩ := isCut_ex s
  obtain ⟨m, hm⟩ := isCut_ex t
  have HK := hidG hk
  have HM := hidG hm
  have HSP := hidG hSP
  have HNS := hidG hNS
  have HLT := hidG hLT
  clear hk hm hSP hNS hLT
  go_enter Tryz.func35, Tryz.ntmps35
  go_wp2_with fail
  refine (readRationals_any s t k m _ hs ht HK.out HM.out HSP.out HNS.out HLT.out).mono ?_
  rintro e w1 ⟨z, z', o, o', rfl, hR1, hR2, hb1⟩
  have HB1 := hidG hb1
  have HR1 := hidG hR1
  have HR2 := hidG hR2
  obtain ⟨s1, p1, l1, c1, s2, p2, l2, c2, rfl⟩ := hR1.1
  obtain ⟨s3, p3, l3, c3, s4, p4, l4, c4, rfl⟩ := hR2.1
  obtain ⟨W2, hW2⟩ : ∃ W2, (w1.alloc (.cells #[.bool s1, .slice p1 l1 c1, .bool s2, .slice p2 l2 c2] 64)).alloc (.cells #[.bool s3, .slice p3 l3 c3, .bool s4, .slice p4 l4 c4] 64) = W2 := ⟨_, rfl⟩
  have HW2 := hidG hW2
  have hB2 : Below w1.heap.size w1 W2 := by rw [← hW2]; exact below_al (below_alloc _ _) _
  have HB12 := hidG hB2
  have HB2 : Hid (Below w.heap.size w W2) := HB1.out.trans (hB2.mono HB1.out.size)
  have hxa : Bx W2 w1.heap.size [.bool s1, .slice p1 l1 c1, .bool s2, .slice p2 l2 c2] := by rw [← hW2]; exact (bx_new w1 _ _).alloc _
  have hxb : Bx W2 (w1.heap.size + 1) [.bool s3, .slice p3 l3 c3, .bool s4, .slice p4 l4 c4] := by
    rw [← hW2]
    have h := bx_new (w1.alloc (.cells #[.bool s1, .slice p1 l1 c1, .bool s2, .slice p2 l2 c2] 64)) [.bool s3, .slice p3 l3 c3, .bool s4, .slice p4 l4 c4] 64
    rw [World.size_alloc] at h
    exact h
  have HX : Hid (∀ W, Below W2.heap.size W2 W → Bx W w1.heap.size [.bool s1, .slice p1 l1 c1, .bool s2, .slice p2 l2 c2] ∧ Bx W (w1.heap.size + 1) [.bool s3, .slice p3 l3 c3, .bool s4, .slice p4 l4 c4]) := fun W hW => ⟨hxa.below hxa.lt hW, hxb.below hxb.lt hW⟩
  have k0 := hxa.cell 0
  have k1 := hxa.cell 1
  have k2 := hxa.cell 2
  have k3 := hxa.cell 3
  simp only [List.getElem?_cons_zero, List.getElem?_cons_succ] at k0 k1 k2 k3
  have j0 := hxb.cell 0
  have j1 := hxb.cell 1
  have j2 := hxb.cell 2
  have j3 := hxb.cell 3
  simp only [List.getElem?_cons_zero, List.getElem?_cons_succ] at j0 j1 j2 j3
  clear hR1 hR2 hb1 hW2 hB2 hxa hxb
  go_upto_region 2 with fail
  rw [HW2.out]
  cases hoo : (o && o')
  · have HF : Hid (IsResC s t (-2)) := resC_no HK.out HM.out HR1.out.2.1 HR2.out.2.1 hoo
    clear hoo
    go_wp2
    go_ret
    exact ⟨_, rfl, HF.out, HB2.out⟩
  · have ho : o = true ∧ o' = true := by cases o <;> cases o' <;> simp_all
    obtain ⟨x1, y1, hV1, hQ1⟩ := HR1.out.2.2 ho.1
    obtain ⟨x2, y2, hV2, hQ2⟩ := HR2.out.2.2 ho.2
    have HQ1 := hidG (hQ1.below HB12.out)
    have HQ2 := hidG (hQ2.below HB12.out)
    have HF : Hid (IsResC s t (ordI (x1 * y2) (x2 * y1))) := ⟨k, m, HK.out, HM.out, .inl ⟨x1, y1, x2, y2, hV1, hV2, rfl⟩⟩
    clear hoo ho hV1 hV2 hQ1 hQ2
    go_wp2_with fail
    refine (compareQ_any w.heap.size _ _ x1 y1 x2 y2 300 W2 HB2.out.size HQ1.out HQ2.out (by omega) (HSP.out.below HB2.out)).mono ?_
    rintro e w3 ⟨rfl, hb3⟩
    have HB3 := hidG (HB2.out.trans (hb3.mono HB2.out.size))
    clear hb3 k0 k1 k2 k3 j0 j1 j2 j3
    go_wp2
    go_ret
    exact ⟨_, rfl, HF.out, HB3.out⟩
set_option maxRecDepth 100000 in
set_option maxHeartbeats 2000000 in
theorem specRatCmp_any (s t : ByteArray) (w : World) (hs : s.size ≤ maxLen) (ht : t.size ≤ maxLen) :
    Calls Tryz.prog 34 #[.string s, .string t] w fun e w' => ∃ r, e = .returned (.int .i64 r) ∧ IsResC s t r ∧ Below w.heap.size w w' := by
  go_enter Tryz.func34, Tryz.ntmps34
  go_wp2_with fail
  refine (specIsRat_any s _ hs).mono ?_
  rintro e w1 ⟨b, rfl, hR1, hb1⟩
  obtain ⟨k, hk, hi1⟩ := hR1
  obtain ⟨m, hm⟩ := isCut_ex t
  have HK := hidG hk
  have HM := hidG hm
  have HI1 := hidG hi1
  have HB1 := hidG hb1
  clear hk hm hi1 hb1
  cases b
  · have HF : Hid (IsResC s t (-2)) := ⟨k, m, HK.out, HM.out, .inr ⟨fun h => Bool.noConfusion (HI1.out.2 h.1), rfl⟩⟩
    go_wp2
    go_ret
    exact ⟨_, rfl, HF.out, HB1.out⟩
  · go_wp2_with fail
    refine (specIsRat_any t _ ht).mono ?_
    rintro e w2 ⟨b, rfl, hR2, hb2⟩
    obtain ⟨m', hm', hi2⟩ := hR2
    obtain rfl := isCut_unique hm' HM.out
    have HI2 := hidG hi2
    have HB2 := hidG (HB1.out.trans (hb2.mono HB1.out.size))
    clear hm' hi2 hb2
    cases b
    · have HF : Hid (IsResC s t (-2)) := ⟨k, _, HK.out, HM.out, .inr ⟨fun h => Bool.noConfusion (HI2.out.2 h.2), rfl⟩⟩
      go_wp2
      go_ret
      exact ⟨_, rfl, HF.out, HB2.out⟩
    · obtain ⟨x1, y1, hV1⟩ := HI1.out.1 (by first | exact rfl | trivial)
      obtain ⟨x2, y2, hV2⟩ := HI2.out.1 (by first | exact rfl | trivial)
      have HV1 := hidG hV1
      have HV2 := hidG hV2
      have HF : Hid (IsResC s t (ordI (x1 * y2) (x2 * y1))) := ⟨k, _, HK.out, HM.out, .inl ⟨x1, y1, x2, y2, hV1, hV2, rfl⟩⟩
      clear hV1 hV2
      go_wp2_with fail
      refine (l2Read_any s k x1 y1 _ hs HK.out HV1.out).mono ?_
      rintro e w3 ⟨z1, rfl, hz1, hb3⟩
      have HZ1 := hidG hz1
      have HB3 := hidG (HB2.out.trans (hb3.mono HB2.out.size))
      have HL3 : Hid (w2.heap.size ≤ w3.heap.size) := hb3.size
      clear hz1 hb3
      go_wp2_with fail
      refine (l2Read_any t _ x2 y2 _ ht HM.out HV2.out).mono ?_
      rintro e w4 ⟨z2, rfl, hz2, hb4⟩
      have HZ1' : Hid (IsQN 0 w4 z1 x1 y1) := qn_zero (HZ1.out.below hb4)
      have HZ2 : Hid (IsQN 0 w4 z2 x2 y2) := qn_zero hz2
      have HB4 := hidG (HB3.out.trans (hb4.mono HB3.out.size))
      clear hz2 hb4
      go_wp2_with fail
      refine (l2Cmp_any 0 z1 z2 x1 y1 x2 y2 _ (Nat.zero_le _) HZ1'.out HZ2.out).mono ?_
      rintro e w5 ⟨rfl, hb5⟩
      have HB5 := hidG (HB4.out.trans (hb5.mono HB4.out.size))
      clear hb5
      go_wp2
      go_ret
      exact ⟨_, rfl, HF.out, HB5.out⟩
end Go.Proofs.YtkhjnnfgidahfaaGreatDoor
namespace Go.Proofs.YtkhjnnfgidahfaaGreatDoor.fnExactRatCmp
open Go.ChangeShapes Go.WideShapes Go.ChangeAt Go.RowKit
open Go.ChangeMaps (open_string shut_string)
set_option linter.unusedVariables false
theorem own : ownKnob Tryz.prog.godebug = none := by kernel_rfl
theorem laidOut : laidOutB Tryz.prog = true := by kernel_rfl
set_option maxRecDepth 100000 in
set_option maxHeartbeats 1000000 in
theorem walk (a0 a1 : ByteArray) (w0 : a0.size ≤ maxLen) (w1 : a1.size ≤ maxLen) (w : World) (h : LT w ∧ SP w ∧ NS w) :
    Calls Tryz.prog 8 #[.string a0, .string a1] w fun e w' => e = .returned (.bool true) ∧ Below w.heap.size w w' := by
  have hs := w0
  have ht := w1
  have HS : Hid (LT w ∧ SP w ∧ NS w) := h
  clear h
  unfold maxLen at w0 w1
  by_cases c : 1048576 < a0.size
  · have z : decide (1048576 < (a0.size : Int)) = true := by rw [decide_eq_true_iff]; omega
    go_enter Tryz.func8, Tryz.ntmps8
    go_wp2
    go_ret
    exact ⟨rfl, Below.refl _ _⟩
  have z : decide (1048576 < (a0.size : Int)) = false := by rw [decide_eq_false_iff_not]; omega
  by_cases c2 : 1048576 < a1.size
  · have z2 : decide (1048576 < (a1.size : Int)) = true := by rw [decide_eq_true_iff]; omega
    go_enter Tryz.func8, Tryz.ntmps8
    go_wp2
    go_ret
    exact ⟨rfl, Below.refl _ _⟩
  have z2 : decide (1048576 < (a1.size : Int)) = false := by rw [decide_eq_false_iff_not]; omega
  clear c c2
  go_enter Tryz.func8, Tryz.ntmps8
  go_wp2_with fail
  refine (specRatCmp_any a0 a1 _ hs ht).mono ?_
  rintro e W1 ⟨u, rfl, hu, hb1⟩
  have HU : Hid (IsResC a0 a1 u) := hu
  have HB1 : Hid (Below w.heap.size w W1) := hb1
  clear hb1 hu
  go_wp2_with fail
  refine (implRatCmp_any a0 a1 _ hs ht (HS.out.2.1.below HB1.out) (HS.out.2.2.below HB1.out) (HS.out.1.below HB1.out)).mono ?_
  rintro e W2 ⟨v, rfl, hv, hb2⟩
  have e1 : v = u := hv.eq HU.out
  subst e1
  have HB2 : Hid (Below w.heap.size w W2) := HB1.out.trans (hb2.mono HB1.out.size)
  clear hb2 hv
  go_wp2
  go_ret
  exact ⟨rfl, HB2.out⟩
set_option maxRecDepth 100000 in
theorem lifted (os : Os) (started : os.Started) (H : Type) (enc : TypeId × Value → H) :
    ReturnsInHanded {} Tryz.checked os 8 .any (fun w args => (Rows.fnExactRatCmpSpec.pre enc Tryz.prog Tryz.f8 [] false w args ∧ laidMetH Tryz.prog Rows.fnExactRatCmpRow.laid w) ∧ sizedMet enc Tryz.prog Tryz.f8 (OpenSpec.ofChange Rows.fnExactRatCmpSpec) false w args)
      (Rows.fnExactRatCmpSpec.post enc Tryz.prog Tryz.f8 false true false false) := by
  refine returnsInHanded_of_change_and (C := Tryz.checked) (X := fun w _ => laidMetH Tryz.prog Rows.fnExactRatCmpRow.laid w) (fun _ _ _ hh h => h.of_heap hh) own started (by kernel_rfl) Tryz.func8
    (ChangeSpec.witness_shaped (enc := enc) (C := Tryz.checked) (os := os) (X := fun w _ => laidMetH Tryz.prog Rows.fnExactRatCmpRow.laid w) false (World.laidAll Tryz.prog os Rows.fnExactRatCmpRow.laid) #[.string ByteArray.empty, .string ByteArray.empty] 8 (World.laidAll_os _ _ _)
      (World.shaped_of_ZipB (by kernel_rfl) (by kernel_rfl)) (by kernel_rfl) (by kernel_rfl) (by kernel_rfl)
      (by rw [MakeChecks.laidMetH_plain _ _ _ (by kernel_rfl)]; exact laidMet_laidAll _ (by kernel_rfl) (by kernel_rfl))) ?_
  intro W base args ds gs before hval0 hW _ _ hL _
  have hval : ∀ (j : Nat) t v, Tryz.f8.params[j]? = some t → args[j]? = some v → Value.okWide Tryz.prog W .any base t v := hval0
  have hW' := hW
  obtain ⟨p, q, hA0, hV, rfl, hfz, hnd⟩ := hW
  have hA : DataW.TrodAll enc Tryz.prog W 0 (fun _ => true) true Tryz.f8.params.toList args.toList ds p := hA0
  rw [Tryz.params8] at hA hval
  obtain ⟨v0, vs0, d0, ds0, p0, q0, hargs, rfl, rfl, h0, r0⟩ := trodAll_cons hA
  obtain ⟨v1, vs1, d1, ds1, p1, q1, rfl, rfl, rfl, h1, r1⟩ := trodAll_cons r0
  obtain ⟨rfl, rfl, rfl⟩ := trodAll_nil r1
  obtain rfl : args = #[v0, v1] := by cases args; simp_all
  obtain ⟨g, t, cs, fuel, d, p', g2, t2, cs2, fuel2, d2, p2, g3, t3, cs3, fuel3, d3, p3, rfl, hg, ht, hvar, hd, hg2, ht2, hvar2, hd2, hg3, ht3, hvar3, hd3, rfl⟩ := trodVars_three hV
  obtain ⟨a0, rfl, rfl, rfl, w0⟩ := open_string Tryz.underlying9 (hval 0 9 v0 rfl rfl) h0
  obtain ⟨a1, rfl, rfl, rfl, w1⟩ := open_string Tryz.underlying9 (hval 1 9 v1 rfl rfl) h1
  rw [MakeChecks.laidMetH_plain _ _ _ (by kernel_rfl)] at hL
  have hsp : LT W ∧ SP W ∧ NS W := all3_of_laid hL
  clear hA0 hval0
  refine (walk a0 a1 w0 w1 W hsp).mono fun e W' ⟨he, bel⟩ => ?_
  subst he
  have hlt1 : 2 < W.heap.size := cell_lt hsp.2.2.1
  have hlt2 : 0 < W.heap.size := cell_lt hsp.2.1.1.1
  have hlt3 : 1 < W.heap.size := block_lt hsp.1
  obtain rfl := Option.some.inj (gSteps.symm.trans hg)
  obtain rfl := Option.some.inj (tSteps.symm.trans ht)
  obtain rfl := Option.some.inj (gSigns.symm.trans hg2)
  obtain rfl := Option.some.inj (tSigns.symm.trans ht2)
  obtain rfl := Option.some.inj (gTens.symm.trans hg3)
  obtain rfl := Option.some.inj (tTens.symm.trans ht3)
  have hdx0 : DataW.trod enc Tryz.prog W 0 (fun _ => true) true fuel 157 cs.toList = some (d, p') := hd
  have hvx0 : W.var? Tryz.prog "loop.example/g00007/impl.noSteps" = some cs := hvar
  have hltx0 : ∀ x ∈ p', x.block < W.heap.size := DataW.trod_lt fuel _ _ _ hdx0
  obtain ⟨fl0, hq0⟩ := Below.trod laidOut (by kernel_rfl) (of_decide_eq_true (by kernel_rfl)) (v := .agg cs) (⟨fuel, by simpa [Value.cells] using hdx0⟩ : DataW.Trod enc Tryz.prog W 0 (fun _ => true) true 157 (.agg cs) d p') bel hltx0
  have hz0 : DataW.trod enc Tryz.prog W' 0 (fun b => decide (b < W.heap.size)) true fl0 157 cs.toList = some (d, p') := by simpa [Value.cells] using hq0
  have hdx1 : DataW.trod enc Tryz.prog W 0 (fun _ => true) true fuel2 139 cs2.toList = some (d2, p2) := hd2
  have hvx1 : W.var? Tryz.prog "loop.example/g00007/impl.signPairs" = some cs2 := hvar2
  have hltx1 : ∀ x ∈ p2, x.block < W.heap.size := DataW.trod_lt fuel2 _ _ _ hdx1
  obtain ⟨fl1, hq1⟩ := Below.trod laidOut (by kernel_rfl) (of_decide_eq_true (by kernel_rfl)) (v := .agg cs2) (⟨fuel2, by simpa [Value.cells] using hdx1⟩ : DataW.Trod enc Tryz.prog W 0 (fun _ => true) true 139 (.agg cs2) d2 p2) bel hltx1
  have hz1 : DataW.trod enc Tryz.prog W' 0 (fun b => decide (b < W.heap.size)) true fl1 139 cs2.toList = some (d2, p2) := by simpa [Value.cells] using hq1
  have hdx2 : DataW.trod enc Tryz.prog W 0 (fun _ => true) true fuel3 144 cs3.toList = some (d3, p3) := hd3
  have hvx2 : W.var? Tryz.prog "loop.example/g00007/impl.limbTens" = some cs3 := hvar3
  have hltx2 : ∀ x ∈ p3, x.block < W.heap.size := DataW.trod_lt fuel3 _ _ _ hdx2
  obtain ⟨fl2, hq2⟩ := Below.trod laidOut (by kernel_rfl) (of_decide_eq_true (by kernel_rfl)) (v := .agg cs3) (⟨fuel3, by simpa [Value.cells] using hdx2⟩ : DataW.Trod enc Tryz.prog W 0 (fun _ => true) true 144 (.agg cs3) d3 p3) bel hltx2
  have hz2 : DataW.trod enc Tryz.prog W' 0 (fun b => decide (b < W.heap.size)) true fl2 144 cs3.toList = some (d3, p3) := by simpa [Value.cells] using hq2
  have hv3 := trodVars_mk1 (enc := enc) (spare := fun b => decide (b < W.heap.size)) gTens tTens (var?_below bel gTens hlt3 hvx2) hz2
  have hv2 : DataW.TrodVars enc Tryz.prog W' (fun b => decide (b < W.heap.size)) ["loop.example/g00007/impl.signPairs", "loop.example/g00007/impl.limbTens"] [d2, d3] (MemPlace.row ⟨0, 0, none⟩ cs2.size ++ p2 ++ (MemPlace.row ⟨1, 0, none⟩ cs3.size ++ p3)) :=
    ⟨_, _, cs2, fl1, p2, _, gSigns, tSigns, var?_below bel gSigns hlt2 hvx1, hz1, hv3, rfl⟩
  have hv' : DataW.TrodVars enc Tryz.prog W' (fun b => decide (b < W.heap.size)) ["loop.example/g00007/impl.noSteps", "loop.example/g00007/impl.signPairs", "loop.example/g00007/impl.limbTens"] [d, d2, d3] (MemPlace.row ⟨2, 0, none⟩ cs.size ++ p' ++ (MemPlace.row ⟨0, 0, none⟩ cs2.size ++ p2 ++ (MemPlace.row ⟨1, 0, none⟩ cs3.size ++ p3))) :=
    ⟨_, _, cs, fl0, p', _, gSteps, tSteps, var?_below bel gSteps hlt1 hvx0, hz0, hv2, rfl⟩
  exact ⟨_, rfl, _, _, _, [], [], _, hW', trodAll_mk1 (shut_bool Tryz.underlying4 _), (trodAll_cons_mk (shut_string Tryz.underlying9 w0) (trodAll_cons_mk (shut_string Tryz.underlying9 w1) trodAll_mk0)), hv', bel.frame _, fun h => by cases h⟩

theorem over : Rows.fnExactRatCmpRow.holds Tryz.pinned (OpenSpec.ofChange Rows.fnExactRatCmpSpec) :=
  OpenClaim.holds_of_wide 8 Tryz.f8 rfl rfl rfl rfl rfl rfl rfl ⟨rfl, rfl, rfl, rfl, rfl⟩ rfl rfl rfl rfl rfl (by kernel_rfl) Tryz.func8 (by kernel_rfl)
    (of_decide_eq_true (by kernel_rfl)) (by unfold Func.isWrapper; first | (rw [if_pos (by decide +kernel)]; kernel_rfl) | (rw [if_neg (by decide +kernel)]; exact ⟨rfl, rfl⟩))
    (fun os started H enc _ => lifted os started H enc)
theorem plain (f : FuncId) (fn : Func) (hf : Tryz.pinned.checked.prog.funcNamed "loop.example/g00007/laws.FnExactRatCmp" = some f) (hfn : Tryz.pinned.checked.prog.funcs[f]? = some fn) :
    false = Tryz.pinned.checked.prog.looks [] ∧ ∀ (j : Nat) t, fn.params[j]? = some t → Tryz.pinned.checked.prog.wantsStandIn t = false := by
  obtain rfl : f = 8 := Option.some.inj ((show Tryz.prog.funcNamed "loop.example/g00007/laws.FnExactRatCmp" = some 8 by kernel_rfl).symm.trans hf) |>.symm
  obtain rfl : fn = Tryz.f8 := (Option.some.inj (Tryz.func8.symm.trans hfn)).symm
  refine ⟨by kernel_rfl, fun j t ht => ?_⟩
  rw [Tryz.params8] at ht
  obtain rfl : t = 9 := by simpa using Array.mem_of_getElem? ht
  exact (show Tryz.prog.wantsStandIn 9 = false by kernel_rfl)
end Go.Proofs.YtkhjnnfgidahfaaGreatDoor.fnExactRatCmp
namespace Go.Proofs.YtkhjnnfgidahfaaGreatDoor
theorem fnExactRatCmp_holds : Rows.FnExactRatCmpCardSaid :=
  Claim7.holds_tied_plain_at .later [] _ _ _ _ fnExactRatCmp.over (fun _ h => by cases h) (by kernel_rfl) (fun _ h => by cases h) fnExactRatCmp_row_tie rfl ⟨rfl, rfl⟩ (by kernel_rfl) rfl fnExactRatCmp.plain (by kernel_rfl)
#print axioms fnExactRatCmp_holds
end Go.Proofs.YtkhjnnfgidahfaaGreatDoor
