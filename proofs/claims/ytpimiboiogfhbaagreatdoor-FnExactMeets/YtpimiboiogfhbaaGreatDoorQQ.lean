import Derived.Test.YtpimiboiogfhbaaGreatDoorU4
import Derived.Test.YtpimiboiogfhbaaGreatDoorU5
import Derived.Deep.RegionHeld3
namespace Go.Proofs.YtpimiboiogfhbaaGreatDoor
open Go.ChangeShapes Go.WideShapes Go.ChangeAt Go.RowKit
/-- Two boxes of the specification's rationals. -/
structure BxS (h : Nat) (W : World) (a0 : Int) (an : Bool) (aa : Option Addr) (al ac : Nat) (b0 : Int) (bn : Bool) (ba : Option Addr) (bl bc : Nat) (d0 : Int) (dn : Bool) (da : Option Addr) (dl dc : Nat) (e0 : Int) (en : Bool) (ea : Option Addr) (el ec : Nat) : Prop where
  a : Bx W h [.int .i64 a0, .bool an, .slice aa al ac, .int .i64 b0, .bool bn, .slice ba bl bc]
  b : Bx W (h + 1) [.int .i64 d0, .bool dn, .slice da dl dc, .int .i64 e0, .bool en, .slice ea el ec]
theorem BxS.below {h N : Nat} {W W' : World} {a0 : Int} {an : Bool} {aa : Option Addr} {al ac : Nat} {b0 : Int} {bn : Bool} {ba : Option Addr} {bl bc : Nat} {d0 : Int} {dn : Bool} {da : Option Addr} {dl dc : Nat} {e0 : Int} {en : Bool} {ea : Option Addr} {el ec : Nat} (m : BxS h W a0 an aa al ac b0 bn ba bl bc d0 dn da dl dc e0 en ea el ec) (hN : h + 2 ≤ N) (hb : Below N W W') : BxS h W' a0 an aa al ac b0 bn ba bl bc d0 dn da dl dc e0 en ea el ec :=
  ⟨m.a.below (by omega) hb, m.b.below (by omega) hb⟩
theorem BxS.held {h : Nat} {W : World} {a0 : Int} {an : Bool} {aa : Option Addr} {al ac : Nat} {b0 : Int} {bn : Bool} {ba : Option Addr} {bl bc : Nat} {d0 : Int} {dn : Bool} {da : Option Addr} {dl dc : Nat} {e0 : Int} {en : Bool} {ea : Option Addr} {el ec : Nat} (m : BxS h W a0 an aa al ac b0 bn ba bl bc d0 dn da dl dc e0 en ea el ec) : W.cell? ⟨h, 0, none⟩ = some (.int .i64 a0) ∧ W.cell? ⟨h, 1, none⟩ = some (.bool an) ∧ W.cell? ⟨h, 2, none⟩ = some (.slice aa al ac) ∧ W.cell? ⟨h, 3, none⟩ = some (.int .i64 b0) ∧ W.cell? ⟨h, 4, none⟩ = some (.bool bn) ∧ W.cell? ⟨h, 5, none⟩ = some (.slice ba bl bc) ∧ W.cell? ⟨h + 1, 0, none⟩ = some (.int .i64 d0) ∧ W.cell? ⟨h + 1, 1, none⟩ = some (.bool dn) ∧ W.cell? ⟨h + 1, 2, none⟩ = some (.slice da dl dc) ∧ W.cell? ⟨h + 1, 3, none⟩ = some (.int .i64 e0) ∧ W.cell? ⟨h + 1, 4, none⟩ = some (.bool en) ∧ W.cell? ⟨h + 1, 5, none⟩ = some (.slice ea el ec) :=
  ⟨m.a.cell 0, m.a.cell 1, m.a.cell 2, m.a.cell 3, m.a.cell 4, m.a.cell 5, m.b.cell 0, m.b.cell 1, m.b.cell 2, m.b.cell 3, m.b.cell 4, m.b.cell 5⟩
theorem l1MulN_any (B : Nat) (za zb : Value) (x y : Int) (n m : Nat) (w : World) (hBw : B ≤ w.heap.size) (ha : NumZ B w za x n) (hb : NumZ B w zb y m) (hn : n ≤ 100000) (hm : m ≤ 100000) :
    Calls Tryz.prog 50 #[za, zb] w fun e w' => ∃ z, e = .returned z ∧ IsN 0 w' z (x * y) ∧ Below w.heap.size w w' := by
  obtain ⟨na, a, hza, rfl, hla⟩ := ha
  obtain ⟨nb, b, hzb, rfl, hlb⟩ := hb
  refine (l1Mul_any B za zb na nb a b w hBw hza hzb (by omega) (by omega)).mono ?_
  rintro e w' ⟨z, rfl, hz, hb⟩
  exact ⟨z, rfl, hz.mono (Nat.zero_le _), hb⟩
theorem l1CmpN_any (B : Nat) (za zb : Value) (x y : Int) (w : World) (hBw : B ≤ w.heap.size) (ha : IsN B w za x) (hb : IsN B w zb y) :
    Calls Tryz.prog 51 #[za, zb] w fun e w' => e = .returned (.int .i64 (ordI x y)) ∧ Below w.heap.size w w' := by
  obtain ⟨na, a, hza, rfl⟩ := ha
  obtain ⟨nb, b, hzb, rfl⟩ := hb
  refine (l1Cmp_any B za zb na nb a b w hBw hza hzb).mono ?_
  rintro e w' ⟨rfl, hb⟩
  exact ⟨by rw [cmpI_ord na nb a b hza.1 hzb.1 hza.2.1 hzb.2.1], hb⟩
set_option maxRecDepth 100000 in
set_option maxHeartbeats 4000000 in
theorem l2Cmp_any (B : Nat) (za zd : Value) (x1 y1 x2 y2 : Int) (w : World) (hBw : B ≤ w.heap.size) (ha : IsQN B w za x1 y1) (hd : IsQN B w zd x2 y2) :
    Calls Tryz.prog 33 #[za, zd] w fun e w' => e = .returned (.int .i64 (ordI (x1 * y2) (x2 * y1))) ∧ Below w.heap.size w w' := by
  have HQA := hidG ha
  have HQD := hidG hd
  obtain ⟨a0, an, aa, al, ac, b0, bn, ba, bl, bc, rfl, h1, h2⟩ := ha
  obtain ⟨d0, dn, da, dl, dc, e0, en, ea, el, ec, rfl, h3, h4⟩ := hd
  have H1 := hidG h1
  have H2 := hidG h2
  have H3 := hidG h3
  have H4 := hidG h4
  have HBW := hidG hBw
  clear h1 h2 h3 h4 hBw
  obtain ⟨W0, hW0⟩ : ∃ W0, (w.alloc (.cells #[.int .i64 a0, .bool an, .slice aa al ac, .int .i64 b0, .bool bn, .slice ba bl bc] 43)).alloc (.cells #[.int .i64 d0, .bool dn, .slice da dl dc, .int .i64 e0, .bool en, .slice ea el ec] 43) = W0 := ⟨_, rfl⟩
  have HW0 := hidG hW0
  have HB0 : Hid (Below w.heap.size w W0) := by show Below w.heap.size w W0; rw [← hW0]; exact below_al (below_alloc _ _) _
  have hx0 : BxS w.heap.size W0 a0 an aa al ac b0 bn ba bl bc d0 dn da dl dc e0 en ea el ec := by
    refine ⟨?_, ?_⟩
    · rw [← hW0]; exact (bx_new w _ _).alloc _
    · rw [← hW0]
      have h := bx_new (w.alloc (.cells #[.int .i64 a0, .bool an, .slice aa al ac, .int .i64 b0, .bool bn, .slice ba bl bc] 43)) [.int .i64 d0, .bool dn, .slice da dl dc, .int .i64 e0, .bool en, .slice ea el ec] 43
      rw [World.size_alloc] at h
      exact h
  have HX : Hid (∀ W, Below W0.heap.size W0 W → BxS w.heap.size W a0 an aa al ac b0 bn ba bl bc d0 dn da dl dc e0 en ea el ec) := fun W hW => hx0.below hx0.b.lt hW
  have T1 : Hid (∀ W, Below W0.heap.size W0 W → Calls Tryz.prog 50 #[.agg #[.int .i64 a0, .bool an, .slice aa al ac], .agg #[.int .i64 e0, .bool en, .slice ea el ec]] W (fun e w' => ∃ z, e = .returned z ∧ IsN 0 w' z (x1 * y2) ∧ Below W.heap.size W w')) := fun W hW =>
    l1MulN_any B _ _ _ _ 20000 20000 W (by have := HBW.out; have := HB0.out.size; have := hW.size; omega) ((H1.out.below HB0.out).below hW) ((H4.out.below HB0.out).below hW) (by omega) (by omega)
  have T2 : Hid (∀ W, Below W0.heap.size W0 W → Calls Tryz.prog 50 #[.agg #[.int .i64 d0, .bool dn, .slice da dl dc], .agg #[.int .i64 b0, .bool bn, .slice ba bl bc]] W (fun e w' => ∃ z, e = .returned z ∧ IsN 0 w' z (x2 * y1) ∧ Below W.heap.size W w')) := fun W hW =>
    l1MulN_any B _ _ _ _ 20000 20000 W (by have := HBW.out; have := HB0.out.size; have := hW.size; omega) ((H3.out.below HB0.out).below hW) ((H2.out.below HB0.out).below hW) (by omega) (by omega)
  have HC : Hid (∀ W, Below W0.heap.size W0 W → Calls Tryz.prog 51 #[.agg #[.int .i64 a0, .bool an, .slice aa al ac], .agg #[.int .i64 d0, .bool dn, .slice da dl dc]] W (fun e w' => e = .returned (.int .i64 (ordI x1 x2)) ∧ Below W.heap.size W w')) := fun W hW =>
    l1CmpN_any B _ _ _ _ W (by have := HBW.out; have := HB0.out.size; have := hW.size; omega) ((H1.out.below HB0.out).below hW).isN ((H3.out.below HB0.out).below hW).isN
  have k0 := hx0.a.cell 0
  have k1 := hx0.a.cell 1
  have k2 := hx0.a.cell 2
  have k3 := hx0.a.cell 3
  have k4 := hx0.a.cell 4
  have k5 := hx0.a.cell 5
  simp only [List.getElem?_cons_zero, List.getElem?_cons_succ] at k0 k1 k2 k3 k4 k5
  have j0 := hx0.b.cell 0
  have j1 := hx0.b.cell 1
  have j2 := hx0.b.cell 2
  have j3 := hx0.b.cell 3
  have j4 := hx0.b.cell 4
  have j5 := hx0.b.cell 5
  simp only [List.getElem?_cons_zero, List.getElem?_cons_succ] at j0 j1 j2 j3 j4 j5
  clear hW0 hx0
  go_enter Tryz.func33, Tryz.ntmps33
  go_upto_region 1 with fail
  rw [HW0.out]
  go_wp2_with fail
  refine (l2Whole_any B _ x1 y1 W0 (by have := HBW.out; have := HB0.out.size; omega) (HQA.out.below HB0.out)).mono ?_
  rintro e w1 ⟨rfl, hb1⟩
  have HQ1 := hidG hb1
  have hx := HX.out w1 hb1
  clear hb1 k0 k1 k2 k3 k4 k5 j0 j1 j2 j3 j4 j5
  have k0 := hx.a.cell 0
  have k1 := hx.a.cell 1
  have k2 := hx.a.cell 2
  have k3 := hx.a.cell 3
  have k4 := hx.a.cell 4
  have k5 := hx.a.cell 5
  simp only [List.getElem?_cons_zero, List.getElem?_cons_succ] at k0 k1 k2 k3 k4 k5
  have j0 := hx.b.cell 0
  have j1 := hx.b.cell 1
  have j2 := hx.b.cell 2
  have j3 := hx.b.cell 3
  have j4 := hx.b.cell 4
  have j5 := hx.b.cell 5
  simp only [List.getElem?_cons_zero, List.getElem?_cons_succ] at j0 j1 j2 j3 j4 j5
  clear hx
  by_cases hy1 : y1 = 1
  · have z : decide (y1 = 1) = true := decide_eq_true hy1
    have HY1 := hidG hy1
    rw [z]
    clear z hy1
    go_wp2_with fail
    refine (l2Whole_any B _ x2 y2 w1 (by have := HBW.out; have := HB0.out.size; have := HQ1.out.size; omega) ((HQD.out.below HB0.out).below HQ1.out)).mono ?_
    rintro e w2 ⟨rfl, hb2⟩
    have HQ2 := hidG (HQ1.out.trans (hb2.mono HQ1.out.size))
    have hx := HX.out w2 HQ2.out
    clear hb2 k0 k1 k2 k3 k4 k5 j0 j1 j2 j3 j4 j5
    have k0 := hx.a.cell 0
    have k1 := hx.a.cell 1
    have k2 := hx.a.cell 2
    have k3 := hx.a.cell 3
    have k4 := hx.a.cell 4
    have k5 := hx.a.cell 5
    simp only [List.getElem?_cons_zero, List.getElem?_cons_succ] at k0 k1 k2 k3 k4 k5
    have j0 := hx.b.cell 0
    have j1 := hx.b.cell 1
    have j2 := hx.b.cell 2
    have j3 := hx.b.cell 3
    have j4 := hx.b.cell 4
    have j5 := hx.b.cell 5
    simp only [List.getElem?_cons_zero, List.getElem?_cons_succ] at j0 j1 j2 j3 j4 j5
    clear hx
    by_cases hy2 : y2 = 1
    · have z : decide (y2 = 1) = true := decide_eq_true hy2
      have HE : Hid (ordI x1 x2 = ordI (x1 * y2) (x2 * y1)) := by show ordI x1 x2 = ordI (x1 * y2) (x2 * y1); rw [HY1.out, hy2, Int.mul_one, Int.mul_one]
      rw [z]
      clear z hy2
      go_wp2_with fail
      refine (HC.out w2 HQ2.out).mono ?_
      rintro e w3 ⟨rfl, hb3⟩
      have HB9 := hidG (HB0.out.trans ((HQ2.out.trans (hb3.mono HQ2.out.size)).mono HB0.out.size))
      clear hb3 k0 k1 k2 k3 k4 k5 j0 j1 j2 j3 j4 j5
      go_wp2
      go_ret
      exact ⟨ret_int HE.out, HB9.out⟩
    · have z : decide (y2 = 1) = false := decide_eq_false hy2
      rw [z]
      clear z hy2
      go_wp2_with fail
      go_region_held3 (fun W => W.cell? ⟨w.heap.size, 0, none⟩ = some (.int .i64 a0) ∧ W.cell? ⟨w.heap.size, 1, none⟩ = some (.bool an) ∧ W.cell? ⟨w.heap.size, 2, none⟩ = some (.slice aa al ac) ∧ W.cell? ⟨w.heap.size, 3, none⟩ = some (.int .i64 b0) ∧ W.cell? ⟨w.heap.size, 4, none⟩ = some (.bool bn) ∧ W.cell? ⟨w.heap.size, 5, none⟩ = some (.slice ba bl bc) ∧ W.cell? ⟨w.heap.size + 1, 0, none⟩ = some (.int .i64 d0) ∧ W.cell? ⟨w.heap.size + 1, 1, none⟩ = some (.bool dn) ∧ W.cell? ⟨w.heap.size + 1, 2, none⟩ = some (.slice da dl dc) ∧ W.cell? ⟨w.heap.size + 1, 3, none⟩ = some (.int .i64 e0) ∧ W.cell? ⟨w.heap.size + 1, 4, none⟩ = some (.bool en) ∧ W.cell? ⟨w.heap.size + 1, 5, none⟩ = some (.slice ea el ec)) (first | assumption | go_keep) (first
        | (go_at_call_of 50 (Value.int IntKind.i64 a0)
           refine (T1.out _ ?_).mono ?_
           · exact HQ2.out.drew
           rintro e wa ⟨u, rfl, hu, hba⟩
           have HU := hidG hu
           have HBA : Hid (Below W0.heap.size W0 wa) := HQ2.out.drew.trans (hba.mono HQ2.out.size)
           have hSa := (HX.out wa HBA.out).held
           clear hu hba)
        | (go_at_call_of 50 (Value.int IntKind.i64 d0)
           refine (T2.out _ ?_).mono ?_
           · exact HBA.out
           rintro e wb ⟨v, rfl, hv, hbb⟩
           have HV := hidG hv
           have HBB := hidG (HBA.out.trans (hbb.mono HBA.out.size))
           have HU2 := hidG (HU.out.below hbb)
           have hSb := (HX.out wb HBB.out).held
           clear hv hbb)
        | (go_at_call 51
           refine (l1CmpN_any 0 _ _ _ _ _ (Nat.zero_le _) HU2.out HV.out).mono ?_
           rintro e wc ⟨rfl, hbc⟩
           have hSc := (HX.out wc (HBB.out.trans (hbc.mono HBB.out.size))).held
           have HBC := hidG (HB0.out.trans ((HBB.out.trans (hbc.mono HBB.out.size)).mono HB0.out.size))
           clear hbc))
      all_goals
        go_wp2
        go_ret
        exact ⟨rfl, HBC.out⟩
  · have z : decide (y1 = 1) = false := decide_eq_false hy1
    rw [z]
    clear z hy1
    go_wp2_with fail
    go_region_held3 (fun W => W.cell? ⟨w.heap.size, 0, none⟩ = some (.int .i64 a0) ∧ W.cell? ⟨w.heap.size, 1, none⟩ = some (.bool an) ∧ W.cell? ⟨w.heap.size, 2, none⟩ = some (.slice aa al ac) ∧ W.cell? ⟨w.heap.size, 3, none⟩ = some (.int .i64 b0) ∧ W.cell? ⟨w.heap.size, 4, none⟩ = some (.bool bn) ∧ W.cell? ⟨w.heap.size, 5, none⟩ = some (.slice ba bl bc) ∧ W.cell? ⟨w.heap.size + 1, 0, none⟩ = some (.int .i64 d0) ∧ W.cell? ⟨w.heap.size + 1, 1, none⟩ = some (.bool dn) ∧ W.cell? ⟨w.heap.size + 1, 2, none⟩ = some (.slice da dl dc) ∧ W.cell? ⟨w.heap.size + 1, 3, none⟩ = some (.int .i64 e0) ∧ W.cell? ⟨w.heap.size + 1, 4, none⟩ = some (.bool en) ∧ W.cell? ⟨w.heap.size + 1, 5, none⟩ = some (.slice ea el ec)) (first | assumption | go_keep) (first
      | (go_at_call_of 50 (Value.int IntKind.i64 a0)
         refine (T1.out _ ?_).mono ?_
         · exact HQ1.out.drew
         rintro e wa ⟨u, rfl, hu, hba⟩
         have HU := hidG hu
         have HBA : Hid (Below W0.heap.size W0 wa) := HQ1.out.drew.trans (hba.mono HQ1.out.size)
         have hSa := (HX.out wa HBA.out).held
         clear hu hba)
      | (go_at_call_of 50 (Value.int IntKind.i64 d0)
         refine (T2.out _ ?_).mono ?_
         · exact HBA.out
         rintro e wb ⟨v, rfl, hv, hbb⟩
         have HV := hidG hv
         have HBB := hidG (HBA.out.trans (hbb.mono HBA.out.size))
         have HU2 := hidG (HU.out.below hbb)
         have hSb := (HX.out wb HBB.out).held
         clear hv hbb)
      | (go_at_call 51
         refine (l1CmpN_any 0 _ _ _ _ _ (Nat.zero_le _) HU2.out HV.out).mono ?_
         rintro e wc ⟨rfl, hbc⟩
         have hSc := (HX.out wc (HBB.out.trans (hbc.mono HBB.out.size))).held
         have HBC := hidG (HB0.out.trans ((HBB.out.trans (hbc.mono HBB.out.size)).mono HB0.out.size))
         clear hbc))
    all_goals
      go_wp2
      go_ret
      exact ⟨rfl, HBC.out⟩
end Go.Proofs.YtpimiboiogfhbaaGreatDoor
namespace Go.Proofs.YtpimiboiogfhbaaGreatDoor
open Go.ChangeShapes Go.WideShapes Go.ChangeAt Go.RowKit
structure BxT (h : Nat) (W : World) (a0 : Int) (an : Bool) (aa : Option Addr) (al ac : Nat) (b0 : Int) (bn : Bool) (ba : Option Addr) (bl bc : Nat) (d0 : Int) (dn : Bool) (da : Option Addr) (dl dc : Nat) (e0 : Int) (en : Bool) (ea : Option Addr) (el ec : Nat) : Prop where
  a : Bx W h [.int .i64 a0, .bool an, .slice aa al ac, .int .i64 b0, .bool bn, .slice ba bl bc]
  b : Bx W (h + 1) [.int .i64 d0, .bool dn, .slice da dl dc, .int .i64 e0, .bool en, .slice ea el ec]
  r : Bx W (h + 1 + 1) [.int .i64 0, .bool false, .slice none 0 0, .int .i64 0, .bool false, .slice none 0 0]
theorem BxT.below {h N : Nat} {W W' : World} {a0 : Int} {an : Bool} {aa : Option Addr} {al ac : Nat} {b0 : Int} {bn : Bool} {ba : Option Addr} {bl bc : Nat} {d0 : Int} {dn : Bool} {da : Option Addr} {dl dc : Nat} {e0 : Int} {en : Bool} {ea : Option Addr} {el ec : Nat} (m : BxT h W a0 an aa al ac b0 bn ba bl bc d0 dn da dl dc e0 en ea el ec) (hN : h + 3 ≤ N) (hb : Below N W W') : BxT h W' a0 an aa al ac b0 bn ba bl bc d0 dn da dl dc e0 en ea el ec :=
  ⟨m.a.below (by omega) hb, m.b.below (by omega) hb, m.r.below (by omega) hb⟩
theorem BxT.held {h : Nat} {W : World} {a0 : Int} {an : Bool} {aa : Option Addr} {al ac : Nat} {b0 : Int} {bn : Bool} {ba : Option Addr} {bl bc : Nat} {d0 : Int} {dn : Bool} {da : Option Addr} {dl dc : Nat} {e0 : Int} {en : Bool} {ea : Option Addr} {el ec : Nat} (m : BxT h W a0 an aa al ac b0 bn ba bl bc d0 dn da dl dc e0 en ea el ec) : W.cell? ⟨h, 0, none⟩ = some (.int .i64 a0) ∧ W.cell? ⟨h, 1, none⟩ = some (.bool an) ∧ W.cell? ⟨h, 2, none⟩ = some (.slice aa al ac) ∧ W.cell? ⟨h, 3, none⟩ = some (.int .i64 b0) ∧ W.cell? ⟨h, 4, none⟩ = some (.bool bn) ∧ W.cell? ⟨h, 5, none⟩ = some (.slice ba bl bc) ∧ W.cell? ⟨h + 1, 0, none⟩ = some (.int .i64 d0) ∧ W.cell? ⟨h + 1, 1, none⟩ = some (.bool dn) ∧ W.cell? ⟨h + 1, 2, none⟩ = some (.slice da dl dc) ∧ W.cell? ⟨h + 1, 3, none⟩ = some (.int .i64 e0) ∧ W.cell? ⟨h + 1, 4, none⟩ = some (.bool en) ∧ W.cell? ⟨h + 1, 5, none⟩ = some (.slice ea el ec) :=
  ⟨m.a.cell 0, m.a.cell 1, m.a.cell 2, m.a.cell 3, m.a.cell 4, m.a.cell 5, m.b.cell 0, m.b.cell 1, m.b.cell 2, m.b.cell 3, m.b.cell 4, m.b.cell 5⟩
theorem cell_far6 {W : World} {a : Addr} {v : Value} (g : Nat) (h : W.cell? a = some v) (hg : g ≠ a.block) (u0 u1 u2 u3 u4 u5 : Value) : ((((((W.setCell ⟨g, 0, none⟩ u0).setCell ⟨g, 1, none⟩ u1).setCell ⟨g, 2, none⟩ u2).setCell ⟨g, 3, none⟩ u3).setCell ⟨g, 4, none⟩ u4).setCell ⟨g, 5, none⟩ u5).cell? a = some v := by
  rw [World.cell?_setCell_far _ _ _ _ hg, World.cell?_setCell_far _ _ _ _ hg, World.cell?_setCell_far _ _ _ _ hg, World.cell?_setCell_far _ _ _ _ hg, World.cell?_setCell_far _ _ _ _ hg, World.cell?_setCell_far _ _ _ _ hg]
  exact h
theorem held_put6 {h : Nat} {W : World} {a0 : Int} {an : Bool} {aa : Option Addr} {al ac : Nat} {b0 : Int} {bn : Bool} {ba : Option Addr} {bl bc : Nat} {d0 : Int} {dn : Bool} {da : Option Addr} {dl dc : Nat} {e0 : Int} {en : Bool} {ea : Option Addr} {el ec : Nat} (m : W.cell? ⟨h, 0, none⟩ = some (.int .i64 a0) ∧ W.cell? ⟨h, 1, none⟩ = some (.bool an) ∧ W.cell? ⟨h, 2, none⟩ = some (.slice aa al ac) ∧ W.cell? ⟨h, 3, none⟩ = some (.int .i64 b0) ∧ W.cell? ⟨h, 4, none⟩ = some (.bool bn) ∧ W.cell? ⟨h, 5, none⟩ = some (.slice ba bl bc) ∧ W.cell? ⟨h + 1, 0, none⟩ = some (.int .i64 d0) ∧ W.cell? ⟨h + 1, 1, none⟩ = some (.bool dn) ∧ W.cell? ⟨h + 1, 2, none⟩ = some (.slice da dl dc) ∧ W.cell? ⟨h + 1, 3, none⟩ = some (.int .i64 e0) ∧ W.cell? ⟨h + 1, 4, none⟩ = some (.bool en) ∧ W.cell? ⟨h + 1, 5, none⟩ = some (.slice ea el ec)) (g : Nat) (h0 : g ≠ h) (h1 : g ≠ h + 1) (u0 u1 u2 u3 u4 u5 : Value) : ((((((W.setCell ⟨g, 0, none⟩ u0).setCell ⟨g, 1, none⟩ u1).setCell ⟨g, 2, none⟩ u2).setCell ⟨g, 3, none⟩ u3).setCell ⟨g, 4, none⟩ u4).setCell ⟨g, 5, none⟩ u5).cell? ⟨h, 0, none⟩ = some (.int .i64 a0) ∧ ((((((W.setCell ⟨g, 0, none⟩ u0).setCell ⟨g, 1, none⟩ u1).setCell ⟨g, 2, none⟩ u2).setCell ⟨g, 3, none⟩ u3).setCell ⟨g, 4, none⟩ u4).setCell ⟨g, 5, none⟩ u5).cell? ⟨h, 1, none⟩ = some (.bool an) ∧ ((((((W.setCell ⟨g, 0, none⟩ u0).setCell ⟨g, 1, none⟩ u1).setCell ⟨g, 2, none⟩ u2).setCell ⟨g, 3, none⟩ u3).setCell ⟨g, 4, none⟩ u4).setCell ⟨g, 5, none⟩ u5).cell? ⟨h, 2, none⟩ = some (.slice aa al ac) ∧ ((((((W.setCell ⟨g, 0, none⟩ u0).setCell ⟨g, 1, none⟩ u1).setCell ⟨g, 2, none⟩ u2).setCell ⟨g, 3, none⟩ u3).setCell ⟨g, 4, none⟩ u4).setCell ⟨g, 5, none⟩ u5).cell? ⟨h, 3, none⟩ = some (.int .i64 b0) ∧ ((((((W.setCell ⟨g, 0, none⟩ u0).setCell ⟨g, 1, none⟩ u1).setCell ⟨g, 2, none⟩ u2).setCell ⟨g, 3, none⟩ u3).setCell ⟨g, 4, none⟩ u4).setCell ⟨g, 5, none⟩ u5).cell? ⟨h, 4, none⟩ = some (.bool bn) ∧ ((((((W.setCell ⟨g, 0, none⟩ u0).setCell ⟨g, 1, none⟩ u1).setCell ⟨g, 2, none⟩ u2).setCell ⟨g, 3, none⟩ u3).setCell ⟨g, 4, none⟩ u4).setCell ⟨g, 5, none⟩ u5).cell? ⟨h, 5, none⟩ = some (.slice ba bl bc) ∧ ((((((W.setCell ⟨g, 0, none⟩ u0).setCell ⟨g, 1, none⟩ u1).setCell ⟨g, 2, none⟩ u2).setCell ⟨g, 3, none⟩ u3).setCell ⟨g, 4, none⟩ u4).setCell ⟨g, 5, none⟩ u5).cell? ⟨h + 1, 0, none⟩ = some (.int .i64 d0) ∧ ((((((W.setCell ⟨g, 0, none⟩ u0).setCell ⟨g, 1, none⟩ u1).setCell ⟨g, 2, none⟩ u2).setCell ⟨g, 3, none⟩ u3).setCell ⟨g, 4, none⟩ u4).setCell ⟨g, 5, none⟩ u5).cell? ⟨h + 1, 1, none⟩ = some (.bool dn) ∧ ((((((W.setCell ⟨g, 0, none⟩ u0).setCell ⟨g, 1, none⟩ u1).setCell ⟨g, 2, none⟩ u2).setCell ⟨g, 3, none⟩ u3).setCell ⟨g, 4, none⟩ u4).setCell ⟨g, 5, none⟩ u5).cell? ⟨h + 1, 2, none⟩ = some (.slice da dl dc) ∧ ((((((W.setCell ⟨g, 0, none⟩ u0).setCell ⟨g, 1, none⟩ u1).setCell ⟨g, 2, none⟩ u2).setCell ⟨g, 3, none⟩ u3).setCell ⟨g, 4, none⟩ u4).setCell ⟨g, 5, none⟩ u5).cell? ⟨h + 1, 3, none⟩ = some (.int .i64 e0) ∧ ((((((W.setCell ⟨g, 0, none⟩ u0).setCell ⟨g, 1, none⟩ u1).setCell ⟨g, 2, none⟩ u2).setCell ⟨g, 3, none⟩ u3).setCell ⟨g, 4, none⟩ u4).setCell ⟨g, 5, none⟩ u5).cell? ⟨h + 1, 4, none⟩ = some (.bool en) ∧ ((((((W.setCell ⟨g, 0, none⟩ u0).setCell ⟨g, 1, none⟩ u1).setCell ⟨g, 2, none⟩ u2).setCell ⟨g, 3, none⟩ u3).setCell ⟨g, 4, none⟩ u4).setCell ⟨g, 5, none⟩ u5).cell? ⟨h + 1, 5, none⟩ = some (.slice ea el ec) :=
  ⟨cell_far6 g m.1 h0 _ _ _ _ _ _, cell_far6 g m.2.1 h0 _ _ _ _ _ _, cell_far6 g m.2.2.1 h0 _ _ _ _ _ _, cell_far6 g m.2.2.2.1 h0 _ _ _ _ _ _, cell_far6 g m.2.2.2.2.1 h0 _ _ _ _ _ _, cell_far6 g m.2.2.2.2.2.1 h0 _ _ _ _ _ _, cell_far6 g m.2.2.2.2.2.2.1 h1 _ _ _ _ _ _, cell_far6 g m.2.2.2.2.2.2.2.1 h1 _ _ _ _ _ _, cell_far6 g m.2.2.2.2.2.2.2.2.1 h1 _ _ _ _ _ _, cell_far6 g m.2.2.2.2.2.2.2.2.2.1 h1 _ _ _ _ _ _, cell_far6 g m.2.2.2.2.2.2.2.2.2.2.1 h1 _ _ _ _ _ _, cell_far6 g m.2.2.2.2.2.2.2.2.2.2.2 h1 _ _ _ _ _ _⟩
theorem low_one (x y1 y2 : Int) (h1 : y1 = 1) (h2 : y2 = 1) : IsLow x (y1 * y2) x y1 := by
  refine ⟨1, by decide, by omega, by rw [h1, h2], by omega, ?_⟩
  rw [h1, h2]
  simp
theorem l1AddN_any (B : Nat) (za zb : Value) (x y : Int) (n m : Nat) (w : World) (hBw : B ≤ w.heap.size) (ha : NumZ B w za x n) (hb : NumZ B w zb y m) (hn : n ≤ 100000) (hm : m ≤ 100000) :
    Calls Tryz.prog 48 #[za, zb] w fun e w' => ∃ z, e = .returned z ∧ IsN 0 w' z (x + y) ∧ Below w.heap.size w w' := by
  obtain ⟨na, a, hza, rfl, hla⟩ := ha
  obtain ⟨nb, b, hzb, rfl, hlb⟩ := hb
  refine (l1Add_any B za zb na nb a b w hBw hza hzb (by omega) (by omega)).mono ?_
  rintro e w' ⟨z, rfl, hz, hb⟩
  exact ⟨z, rfl, hz.mono (Nat.zero_le _), hb⟩
set_option maxRecDepth 100000 in
set_option maxHeartbeats 8000000 in
theorem l2Mul_any (B : Nat) (za zd : Value) (x1 y1 x2 y2 : Int) (w : World) (hBw : B ≤ w.heap.size) (ha : IsQN B w za x1 y1) (hd : IsQN B w zd x2 y2) (hlt : x1.natAbs < lb 6000 ∧ y1.natAbs < lb 6000 ∧ x2.natAbs < lb 6000 ∧ y2.natAbs < lb 6000) (hden : y1 * y2 ≠ 0) :
    Calls Tryz.prog 32 #[za, zd] w fun e w' => ∃ z p q, e = .returned z ∧ IsQN 0 w' z p q ∧ IsLow (x1 * x2) (y1 * y2) p q ∧ Below w.heap.size w w' := by
  have HQA := hidG ha
  have HQD := hidG hd
  have HL := hidG hlt
  have HD := hidG hden
  obtain ⟨a0, an, aa, al, ac, b0, bn, ba, bl, bc, rfl, h1, h2⟩ := ha
  obtain ⟨d0, dn, da, dl, dc, e0, en, ea, el, ec, rfl, h3, h4⟩ := hd
  have H1 := hidG h1
  have H2 := hidG h2
  have H3 := hidG h3
  have H4 := hidG h4
  have HBW := hidG hBw
  clear h1 h2 h3 h4 hBw hlt hden
  obtain ⟨W0, hW0⟩ : ∃ W0, ((w.alloc (.cells #[.int .i64 a0, .bool an, .slice aa al ac, .int .i64 b0, .bool bn, .slice ba bl bc] 43)).alloc (.cells #[.int .i64 d0, .bool dn, .slice da dl dc, .int .i64 e0, .bool en, .slice ea el ec] 43)).alloc (.cells #[.int .i64 0, .bool false, .slice none 0 0, .int .i64 0, .bool false, .slice none 0 0] 43) = W0 := ⟨_, rfl⟩
  have HW0 := hidG hW0
  have HB0 : Hid (Below w.heap.size w W0) := by show Below w.heap.size w W0; rw [← hW0]; exact below_al (below_al (below_alloc _ _) _) _
  have hx0 : BxT w.heap.size W0 a0 an aa al ac b0 bn ba bl bc d0 dn da dl dc e0 en ea el ec := by
    refine ⟨?_, ?_, ?_⟩
    · rw [← hW0]; exact ((bx_new w _ _).alloc _).alloc _
    · rw [← hW0]
      have h := bx_new (w.alloc (.cells #[.int .i64 a0, .bool an, .slice aa al ac, .int .i64 b0, .bool bn, .slice ba bl bc] 43)) [.int .i64 d0, .bool dn, .slice da dl dc, .int .i64 e0, .bool en, .slice ea el ec] 43
      rw [World.size_alloc] at h
      exact h.alloc _
    · rw [← hW0]
      have h := bx_new ((w.alloc (.cells #[.int .i64 a0, .bool an, .slice aa al ac, .int .i64 b0, .bool bn, .slice ba bl bc] 43)).alloc (.cells #[.int .i64 d0, .bool dn, .slice da dl dc, .int .i64 e0, .bool en, .slice ea el ec] 43)) [.int .i64 0, .bool false, .slice none 0 0, .int .i64 0, .bool false, .slice none 0 0] 43
      rw [World.size_alloc, World.size_alloc] at h
      exact h
  have HX : Hid (∀ W, Below W0.heap.size W0 W → BxT w.heap.size W a0 an aa al ac b0 bn ba bl bc d0 dn da dl dc e0 en ea el ec) := fun W hW => hx0.below hx0.r.lt hW
  have T1 : Hid (∀ W, Below W0.heap.size W0 W → Calls Tryz.prog 50 #[.agg #[.int .i64 a0, .bool an, .slice aa al ac], .agg #[.int .i64 d0, .bool dn, .slice da dl dc]] W (fun e w' => ∃ z, e = .returned z ∧ NumZ 0 w' z (x1 * x2) 12000 ∧ Below W.heap.size W w')) := fun W hW => by
    refine (l1MulN_any B _ _ _ _ 20000 20000 W (by have := HBW.out; have := HB0.out.size; have := hW.size; omega) ((H1.out.below HB0.out).below hW) ((H3.out.below HB0.out).below hW) (by omega) (by omega)).mono ?_
    rintro e w' ⟨z, rfl, hz, hb⟩
    exact ⟨z, rfl, numZ_lt hz (mul_lt HL.out.1 HL.out.2.2.1), hb⟩
  have T2 : Hid (∀ W, Below W0.heap.size W0 W → Calls Tryz.prog 50 #[.agg #[.int .i64 b0, .bool bn, .slice ba bl bc], .agg #[.int .i64 e0, .bool en, .slice ea el ec]] W (fun e w' => ∃ z, e = .returned z ∧ NumZ 0 w' z (y1 * y2) 12000 ∧ Below W.heap.size W w')) := fun W hW => by
    refine (l1MulN_any B _ _ _ _ 20000 20000 W (by have := HBW.out; have := HB0.out.size; have := hW.size; omega) ((H2.out.below HB0.out).below hW) ((H4.out.below HB0.out).below hW) (by omega) (by omega)).mono ?_
    rintro e w' ⟨z, rfl, hz, hb⟩
    exact ⟨z, rfl, numZ_lt hz (mul_lt HL.out.2.1 HL.out.2.2.2), hb⟩
  have TW : Hid (∀ W, Below W0.heap.size W0 W → Calls Tryz.prog 50 #[.agg #[.int .i64 a0, .bool an, .slice aa al ac], .agg #[.int .i64 d0, .bool dn, .slice da dl dc]] W (fun e w' => ∃ z, e = .returned z ∧ NumZ 0 w' z (x1 * x2) 12000 ∧ Below W.heap.size W w')) := fun W hW => by
    refine (l1MulN_any B _ _ _ _ 20000 20000 W (by have := HBW.out; have := HB0.out.size; have := hW.size; omega) ((H1.out.below HB0.out).below hW) ((H3.out.below HB0.out).below hW) (by omega) (by omega)).mono ?_
    rintro e w' ⟨z, rfl, hz, hb⟩
    exact ⟨z, rfl, numZ_lt hz (mul_lt HL.out.1 HL.out.2.2.1), hb⟩
  have k0 := hx0.a.cell 0
  have k1 := hx0.a.cell 1
  have k2 := hx0.a.cell 2
  have k3 := hx0.a.cell 3
  have k4 := hx0.a.cell 4
  have k5 := hx0.a.cell 5
  simp only [List.getElem?_cons_zero, List.getElem?_cons_succ] at k0 k1 k2 k3 k4 k5
  have j0 := hx0.b.cell 0
  have j1 := hx0.b.cell 1
  have j2 := hx0.b.cell 2
  have j3 := hx0.b.cell 3
  have j4 := hx0.b.cell 4
  have j5 := hx0.b.cell 5
  simp only [List.getElem?_cons_zero, List.getElem?_cons_succ] at j0 j1 j2 j3 j4 j5
  clear hW0 hx0
  go_enter Tryz.func32, Tryz.ntmps32
  go_upto_region 1 with fail
  rw [HW0.out]
  go_wp2_with fail
  refine (l2Whole_any B _ x1 y1 W0 (by have := HBW.out; have := HB0.out.size; omega) (HQA.out.below HB0.out)).mono ?_
  rintro e w1 ⟨rfl, hb1⟩
  have HQ1 := hidG hb1
  have hx := HX.out w1 hb1
  clear hb1 k0 k1 k2 k3 k4 k5 j0 j1 j2 j3 j4 j5
  have k0 := hx.a.cell 0
  have k1 := hx.a.cell 1
  have k2 := hx.a.cell 2
  have k3 := hx.a.cell 3
  have k4 := hx.a.cell 4
  have k5 := hx.a.cell 5
  simp only [List.getElem?_cons_zero, List.getElem?_cons_succ] at k0 k1 k2 k3 k4 k5
  have j0 := hx.b.cell 0
  have j1 := hx.b.cell 1
  have j2 := hx.b.cell 2
  have j3 := hx.b.cell 3
  have j4 := hx.b.cell 4
  have j5 := hx.b.cell 5
  simp only [List.getElem?_cons_zero, List.getElem?_cons_succ] at j0 j1 j2 j3 j4 j5
  clear hx
  by_cases hy1 : y1 = 1
  · have z : decide (y1 = 1) = true := decide_eq_true hy1
    have HY1 := hidG hy1
    rw [z]
    clear z hy1
    go_wp2_with fail
    refine (l2Whole_any B _ x2 y2 w1 (by have := HBW.out; have := HB0.out.size; have := HQ1.out.size; omega) ((HQD.out.below HB0.out).below HQ1.out)).mono ?_
    rintro e w2 ⟨rfl, hb2⟩
    have HQ2 := hidG (HQ1.out.trans (hb2.mono HQ1.out.size))
    have hx := HX.out w2 HQ2.out
    clear hb2 k0 k1 k2 k3 k4 k5 j0 j1 j2 j3 j4 j5
    have k0 := hx.a.cell 0
    have k1 := hx.a.cell 1
    have k2 := hx.a.cell 2
    have k3 := hx.a.cell 3
    have k4 := hx.a.cell 4
    have k5 := hx.a.cell 5
    simp only [List.getElem?_cons_zero, List.getElem?_cons_succ] at k0 k1 k2 k3 k4 k5
    have j0 := hx.b.cell 0
    have j1 := hx.b.cell 1
    have j2 := hx.b.cell 2
    have j3 := hx.b.cell 3
    have j4 := hx.b.cell 4
    have j5 := hx.b.cell 5
    simp only [List.getElem?_cons_zero, List.getElem?_cons_succ] at j0 j1 j2 j3 j4 j5
    clear hx
    by_cases hy2 : y2 = 1
    · have z : decide (y2 = 1) = true := decide_eq_true hy2
      have HLO : Hid (IsLow (x1 * x2) (y1 * y2) (x1 * x2) y1) := by
        show IsLow (x1 * x2) (y1 * y2) (x1 * x2) y1
        exact low_one _ _ _ HY1.out hy2
      rw [z]
      clear z hy2
      go_wp2_with fail
      go_region_held3 (fun W => W.cell? ⟨w.heap.size, 0, none⟩ = some (.int .i64 a0) ∧ W.cell? ⟨w.heap.size, 1, none⟩ = some (.bool an) ∧ W.cell? ⟨w.heap.size, 2, none⟩ = some (.slice aa al ac) ∧ W.cell? ⟨w.heap.size, 3, none⟩ = some (.int .i64 b0) ∧ W.cell? ⟨w.heap.size, 4, none⟩ = some (.bool bn) ∧ W.cell? ⟨w.heap.size, 5, none⟩ = some (.slice ba bl bc) ∧ W.cell? ⟨w.heap.size + 1, 0, none⟩ = some (.int .i64 d0) ∧ W.cell? ⟨w.heap.size + 1, 1, none⟩ = some (.bool dn) ∧ W.cell? ⟨w.heap.size + 1, 2, none⟩ = some (.slice da dl dc) ∧ W.cell? ⟨w.heap.size + 1, 3, none⟩ = some (.int .i64 e0) ∧ W.cell? ⟨w.heap.size + 1, 4, none⟩ = some (.bool en) ∧ W.cell? ⟨w.heap.size + 1, 5, none⟩ = some (.slice ea el ec)) (first | with_reducible assumption | with_reducible exact held_put6 (by with_reducible assumption) (w.heap.size + 1 + 1) (by omega) (by omega) _ _ _ _ _ _ | go_keep) (first
        | (go_at_call 50
           refine (TW.out _ ?_).mono ?_
           · exact HQ2.out.drew
           rintro e wm ⟨u, rfl, hu, hb⟩
           obtain ⟨g0, gn, ga, gl, gc, rfl⟩ := hu.isN.shape
           have HG := hidG (numZ_le hu (n := 20000) (by omega))
           have HTM : Hid (Below W0.heap.size W0 wm) := HQ2.out.drew.trans (hb.mono HQ2.out.size)
           have hxa := HX.out wm HTM.out
           have hSm := hxa.held
           have r0 := hxa.r.cell 0
           have r1 := hxa.r.cell 1
           have r2 := hxa.r.cell 2
           have r3 := hxa.r.cell 3
           have r4 := hxa.r.cell 4
           have r5 := hxa.r.cell 5
           simp only [List.getElem?_cons_zero, List.getElem?_cons_succ] at r0 r1 r2 r3 r4 r5
           have f0 := hxa.r.frozen 0
           have f1 := hxa.r.frozen 1
           have f2 := hxa.r.frozen 2
           have f3 := hxa.r.frozen 3
           have f4 := hxa.r.frozen 4
           have f5 := hxa.r.frozen 5
           clear hu hb hxa))
      all_goals
        try simp only [List.getElem_toArray, List.getElem_cons_succ, List.getElem_cons_zero, Act.put, List.setIfInBounds_toArray, List.set_cons_succ, List.set_cons_zero]
        go_wp2
        have hbw := (HX.out wm HTM.out).r
        have hnR : NoInt wm (w.heap.size + 1 + 1) := noInt_of hbw (by simp)
        have hk := keeps6 wm (w.heap.size + 1 + 1) (.int .i64 g0) (.bool gn) (.slice ga gl gc) (.int .i64 b0) (.bool bn) (.slice ba bl bc)
        have hP9 := (HG.out).keeps hnR hnR hk
        have hQ9 := (((H2.out.below HB0.out).below HTM.out).mono (Nat.zero_le _)).keeps hnR hnR hk
        have hB9 := set6 (HB0.out.trans (HTM.out.mono HB0.out.size)) (w.heap.size + 1 + 1) (by omega) (.int .i64 g0) (.bool gn) (.slice ga gl gc) (.int .i64 b0) (.bool bn) (.slice ba bl bc)
        have hZ := hbw.put6 (.int .i64 g0) (.bool gn) (.slice ga gl gc) (.int .i64 b0) (.bool bn) (.slice ba bl bc)
        have hWW : ((((((wm.setCell ⟨w.heap.size + 1 + 1, 0, none⟩ (.int .i64 g0)).setCell ⟨w.heap.size + 1 + 1, 1, none⟩ (.bool gn)).setCell ⟨w.heap.size + 1 + 1, 2, none⟩ (.slice ga gl gc)).setCell ⟨w.heap.size + 1 + 1, 3, none⟩ (.int .i64 b0)).setCell ⟨w.heap.size + 1 + 1, 4, none⟩ (.bool bn)).setCell ⟨w.heap.size + 1 + 1, 5, none⟩ (.slice ba bl bc)) = W6 wm (w.heap.size + 1 + 1) (.int .i64 g0) (.bool gn) (.slice ga gl gc) (.int .i64 b0) (.bool bn) (.slice ba bl bc) := rfl
        rw [hWW]
        generalize W6 wm (w.heap.size + 1 + 1) (.int .i64 g0) (.bool gn) (.slice ga gl gc) (.int .i64 b0) (.bool bn) (.slice ba bl bc) = W9 at *
        have o0 := hZ.cell 0
        have o1 := hZ.cell 1
        have o2 := hZ.cell 2
        have o3 := hZ.cell 3
        have o4 := hZ.cell 4
        have o5 := hZ.cell 5
        simp only [List.getElem?_cons_zero, List.getElem?_cons_succ] at o0 o1 o2 o3 o4 o5
        refine bodyPost_ret (v := .agg #[.int .i64 g0, .bool gn, .slice ga gl gc, .int .i64 b0, .bool bn, .slice ba bl bc]) ?_ rfl ⟨_, _, _, rfl, ⟨g0, gn, ga, gl, gc, b0, bn, ba, bl, bc, rfl, hP9, hQ9⟩, HLO.out, hB9⟩
        simp [results, Tryz.results32, go_sem, o0, o1, o2, o3, o4, o5]
    · have z : decide (y2 = 1) = false := decide_eq_false hy2
      rw [z]
      clear z hy2
      go_wp2_with fail
      go_region_held3 (fun W => W.cell? ⟨w.heap.size, 0, none⟩ = some (.int .i64 a0) ∧ W.cell? ⟨w.heap.size, 1, none⟩ = some (.bool an) ∧ W.cell? ⟨w.heap.size, 2, none⟩ = some (.slice aa al ac) ∧ W.cell? ⟨w.heap.size, 3, none⟩ = some (.int .i64 b0) ∧ W.cell? ⟨w.heap.size, 4, none⟩ = some (.bool bn) ∧ W.cell? ⟨w.heap.size, 5, none⟩ = some (.slice ba bl bc) ∧ W.cell? ⟨w.heap.size + 1, 0, none⟩ = some (.int .i64 d0) ∧ W.cell? ⟨w.heap.size + 1, 1, none⟩ = some (.bool dn) ∧ W.cell? ⟨w.heap.size + 1, 2, none⟩ = some (.slice da dl dc) ∧ W.cell? ⟨w.heap.size + 1, 3, none⟩ = some (.int .i64 e0) ∧ W.cell? ⟨w.heap.size + 1, 4, none⟩ = some (.bool en) ∧ W.cell? ⟨w.heap.size + 1, 5, none⟩ = some (.slice ea el ec)) (first | with_reducible assumption | with_reducible exact held_put6 (by with_reducible assumption) (w.heap.size + 1 + 1) (by omega) (by omega) _ _ _ _ _ _ | go_keep) (first
        | (go_at_call_of 50 (Value.int IntKind.i64 a0)
           refine (T1.out _ ?_).mono ?_
           · exact HQ2.out.drew
           rintro e wt1 ⟨u1, rfl, hu, hb⟩
           have HU1 := hidG hu
           have HT1 : Hid (Below W0.heap.size W0 wt1) := HQ2.out.drew.trans (hb.mono HQ2.out.size)
           have hS0 := (HX.out wt1 HT1.out).held
           clear hu hb)
        | (go_at_call_of 50 (Value.int IntKind.i64 b0)
           refine (T2.out _ ?_).mono ?_
           · exact HT1.out
           rintro e wt2 ⟨u2, rfl, hu, hb⟩
           have HU2 := hidG hu
           have HT2 : Hid (Below W0.heap.size W0 wt2) := HT1.out.trans (hb.mono HT1.out.size)
           have HV1 := hidG (HU1.out.below hb)
           have hS1 := (HX.out wt2 HT2.out).held
           clear hu hb)
        | (go_at_call 49
           refine (l2Make_any 0 _ _ (x1 * x2) (y1 * y2) _ (Nat.zero_le _) (numZ_le HV1.out (by omega)) (numZ_le HU2.out (by omega)) HD.out).mono ?_
           rintro e wm ⟨zr, p, q, rfl, hr, hlow, hb⟩
           have HLOW := hidG hlow
           have HTM : Hid (Below W0.heap.size W0 wm) := HT2.out.trans (hb.mono HT2.out.size)
           obtain ⟨g0, gn, ga, gl, gc, h0, hn, hA, hl, hc, rfl, hg, hh⟩ := hr
           have HG := hidG hg
           have HH := hidG hh
           have hxa := HX.out wm HTM.out
           have hSm := hxa.held
           have r0 := hxa.r.cell 0
           have r1 := hxa.r.cell 1
           have r2 := hxa.r.cell 2
           have r3 := hxa.r.cell 3
           have r4 := hxa.r.cell 4
           have r5 := hxa.r.cell 5
           simp only [List.getElem?_cons_zero, List.getElem?_cons_succ] at r0 r1 r2 r3 r4 r5
           have f0 := hxa.r.frozen 0
           have f1 := hxa.r.frozen 1
           have f2 := hxa.r.frozen 2
           have f3 := hxa.r.frozen 3
           have f4 := hxa.r.frozen 4
           have f5 := hxa.r.frozen 5
           clear hg hh hlow hb hxa))
      all_goals
        try simp only [List.getElem_toArray, List.getElem_cons_succ, List.getElem_cons_zero, Act.put, List.setIfInBounds_toArray, List.set_cons_succ, List.set_cons_zero]
        go_wp2
        have hbw := (HX.out wm HTM.out).r
        have hnR : NoInt wm (w.heap.size + 1 + 1) := noInt_of hbw (by simp)
        have hk := keeps6 wm (w.heap.size + 1 + 1) (.int .i64 g0) (.bool gn) (.slice ga gl gc) (.int .i64 h0) (.bool hn) (.slice hA hl hc)
        have hP9 := (HG.out).keeps hnR hnR hk
        have hQ9 := (HH.out).keeps hnR hnR hk
        have hB9 := set6 (HB0.out.trans (HTM.out.mono HB0.out.size)) (w.heap.size + 1 + 1) (by omega) (.int .i64 g0) (.bool gn) (.slice ga gl gc) (.int .i64 h0) (.bool hn) (.slice hA hl hc)
        have hZ := hbw.put6 (.int .i64 g0) (.bool gn) (.slice ga gl gc) (.int .i64 h0) (.bool hn) (.slice hA hl hc)
        have hWW : ((((((wm.setCell ⟨w.heap.size + 1 + 1, 0, none⟩ (.int .i64 g0)).setCell ⟨w.heap.size + 1 + 1, 1, none⟩ (.bool gn)).setCell ⟨w.heap.size + 1 + 1, 2, none⟩ (.slice ga gl gc)).setCell ⟨w.heap.size + 1 + 1, 3, none⟩ (.int .i64 h0)).setCell ⟨w.heap.size + 1 + 1, 4, none⟩ (.bool hn)).setCell ⟨w.heap.size + 1 + 1, 5, none⟩ (.slice hA hl hc)) = W6 wm (w.heap.size + 1 + 1) (.int .i64 g0) (.bool gn) (.slice ga gl gc) (.int .i64 h0) (.bool hn) (.slice hA hl hc) := rfl
        rw [hWW]
        generalize W6 wm (w.heap.size + 1 + 1) (.int .i64 g0) (.bool gn) (.slice ga gl gc) (.int .i64 h0) (.bool hn) (.slice hA hl hc) = W9 at *
        have o0 := hZ.cell 0
        have o1 := hZ.cell 1
        have o2 := hZ.cell 2
        have o3 := hZ.cell 3
        have o4 := hZ.cell 4
        have o5 := hZ.cell 5
        simp only [List.getElem?_cons_zero, List.getElem?_cons_succ] at o0 o1 o2 o3 o4 o5
        refine bodyPost_ret (v := .agg #[.int .i64 g0, .bool gn, .slice ga gl gc, .int .i64 h0, .bool hn, .slice hA hl hc]) ?_ rfl ⟨_, p, q, rfl, ⟨g0, gn, ga, gl, gc, h0, hn, hA, hl, hc, rfl, hP9, hQ9⟩, HLOW.out, hB9⟩
        simp [results, Tryz.results32, go_sem, o0, o1, o2, o3, o4, o5]
  · have z : decide (y1 = 1) = false := decide_eq_false hy1
    rw [z]
    clear z hy1
    go_wp2_with fail
    go_region_held3 (fun W => W.cell? ⟨w.heap.size, 0, none⟩ = some (.int .i64 a0) ∧ W.cell? ⟨w.heap.size, 1, none⟩ = some (.bool an) ∧ W.cell? ⟨w.heap.size, 2, none⟩ = some (.slice aa al ac) ∧ W.cell? ⟨w.heap.size, 3, none⟩ = some (.int .i64 b0) ∧ W.cell? ⟨w.heap.size, 4, none⟩ = some (.bool bn) ∧ W.cell? ⟨w.heap.size, 5, none⟩ = some (.slice ba bl bc) ∧ W.cell? ⟨w.heap.size + 1, 0, none⟩ = some (.int .i64 d0) ∧ W.cell? ⟨w.heap.size + 1, 1, none⟩ = some (.bool dn) ∧ W.cell? ⟨w.heap.size + 1, 2, none⟩ = some (.slice da dl dc) ∧ W.cell? ⟨w.heap.size + 1, 3, none⟩ = some (.int .i64 e0) ∧ W.cell? ⟨w.heap.size + 1, 4, none⟩ = some (.bool en) ∧ W.cell? ⟨w.heap.size + 1, 5, none⟩ = some (.slice ea el ec)) (first | with_reducible assumption | with_reducible exact held_put6 (by with_reducible assumption) (w.heap.size + 1 + 1) (by omega) (by omega) _ _ _ _ _ _ | go_keep) (first
      | (go_at_call_of 50 (Value.int IntKind.i64 a0)
         refine (T1.out _ ?_).mono ?_
         · exact HQ1.out.drew
         rintro e wt1 ⟨u1, rfl, hu, hb⟩
         have HU1 := hidG hu
         have HT1 : Hid (Below W0.heap.size W0 wt1) := HQ1.out.drew.trans (hb.mono HQ1.out.size)
         have hS0 := (HX.out wt1 HT1.out).held
         clear hu hb)
      | (go_at_call_of 50 (Value.int IntKind.i64 b0)
         refine (T2.out _ ?_).mono ?_
         · exact HT1.out
         rintro e wt2 ⟨u2, rfl, hu, hb⟩
         have HU2 := hidG hu
         have HT2 : Hid (Below W0.heap.size W0 wt2) := HT1.out.trans (hb.mono HT1.out.size)
         have HV1 := hidG (HU1.out.below hb)
         have hS1 := (HX.out wt2 HT2.out).held
         clear hu hb)
      | (go_at_call 49
         refine (l2Make_any 0 _ _ (x1 * x2) (y1 * y2) _ (Nat.zero_le _) (numZ_le HV1.out (by omega)) (numZ_le HU2.out (by omega)) HD.out).mono ?_
         rintro e wm ⟨zr, p, q, rfl, hr, hlow, hb⟩
         have HLOW := hidG hlow
         have HTM : Hid (Below W0.heap.size W0 wm) := HT2.out.trans (hb.mono HT2.out.size)
         obtain ⟨g0, gn, ga, gl, gc, h0, hn, hA, hl, hc, rfl, hg, hh⟩ := hr
         have HG := hidG hg
         have HH := hidG hh
         have hxa := HX.out wm HTM.out
         have hSm := hxa.held
         have r0 := hxa.r.cell 0
         have r1 := hxa.r.cell 1
         have r2 := hxa.r.cell 2
         have r3 := hxa.r.cell 3
         have r4 := hxa.r.cell 4
         have r5 := hxa.r.cell 5
         simp only [List.getElem?_cons_zero, List.getElem?_cons_succ] at r0 r1 r2 r3 r4 r5
         have f0 := hxa.r.frozen 0
         have f1 := hxa.r.frozen 1
         have f2 := hxa.r.frozen 2
         have f3 := hxa.r.frozen 3
         have f4 := hxa.r.frozen 4
         have f5 := hxa.r.frozen 5
         clear hg hh hlow hb hxa))
    all_goals
      try simp only [List.getElem_toArray, List.getElem_cons_succ, List.getElem_cons_zero, Act.put, List.setIfInBounds_toArray, List.set_cons_succ, List.set_cons_zero]
      go_wp2
      have hbw := (HX.out wm HTM.out).r
      have hnR : NoInt wm (w.heap.size + 1 + 1) := noInt_of hbw (by simp)
      have hk := keeps6 wm (w.heap.size + 1 + 1) (.int .i64 g0) (.bool gn) (.slice ga gl gc) (.int .i64 h0) (.bool hn) (.slice hA hl hc)
      have hP9 := (HG.out).keeps hnR hnR hk
      have hQ9 := (HH.out).keeps hnR hnR hk
      have hB9 := set6 (HB0.out.trans (HTM.out.mono HB0.out.size)) (w.heap.size + 1 + 1) (by omega) (.int .i64 g0) (.bool gn) (.slice ga gl gc) (.int .i64 h0) (.bool hn) (.slice hA hl hc)
      have hZ := hbw.put6 (.int .i64 g0) (.bool gn) (.slice ga gl gc) (.int .i64 h0) (.bool hn) (.slice hA hl hc)
      have hWW : ((((((wm.setCell ⟨w.heap.size + 1 + 1, 0, none⟩ (.int .i64 g0)).setCell ⟨w.heap.size + 1 + 1, 1, none⟩ (.bool gn)).setCell ⟨w.heap.size + 1 + 1, 2, none⟩ (.slice ga gl gc)).setCell ⟨w.heap.size + 1 + 1, 3, none⟩ (.int .i64 h0)).setCell ⟨w.heap.size + 1 + 1, 4, none⟩ (.bool hn)).setCell ⟨w.heap.size + 1 + 1, 5, none⟩ (.slice hA hl hc)) = W6 wm (w.heap.size + 1 + 1) (.int .i64 g0) (.bool gn) (.slice ga gl gc) (.int .i64 h0) (.bool hn) (.slice hA hl hc) := rfl
      rw [hWW]
      generalize W6 wm (w.heap.size + 1 + 1) (.int .i64 g0) (.bool gn) (.slice ga gl gc) (.int .i64 h0) (.bool hn) (.slice hA hl hc) = W9 at *
      have o0 := hZ.cell 0
      have o1 := hZ.cell 1
      have o2 := hZ.cell 2
      have o3 := hZ.cell 3
      have o4 := hZ.cell 4
      have o5 := hZ.cell 5
      simp only [List.getElem?_cons_zero, List.getElem?_cons_succ] at o0 o1 o2 o3 o4 o5
      refine bodyPost_ret (v := .agg #[.int .i64 g0, .bool gn, .slice ga gl gc, .int .i64 h0, .bool hn, .slice hA hl hc]) ?_ rfl ⟨_, p, q, rfl, ⟨g0, gn, ga, gl, gc, h0, hn, hA, hl, hc, rfl, hP9, hQ9⟩, HLOW.out, hB9⟩
      simp [results, Tryz.results32, go_sem, o0, o1, o2, o3, o4, o5]
end Go.Proofs.YtpimiboiogfhbaaGreatDoor
namespace Go.Proofs.YtpimiboiogfhbaaGreatDoor
open Go.ChangeShapes Go.WideShapes Go.ChangeAt Go.RowKit
set_option maxRecDepth 100000 in
set_option maxHeartbeats 8000000 in
theorem l2Add_any (B : Nat) (za zd : Value) (x1 y1 x2 y2 : Int) (w : World) (hBw : B ≤ w.heap.size) (ha : IsQN B w za x1 y1) (hd : IsQN B w zd x2 y2) (hlt : x1.natAbs < lb 6000 ∧ y1.natAbs < lb 6000 ∧ x2.natAbs < lb 6000 ∧ y2.natAbs < lb 6000) (hden : y1 * y2 ≠ 0) :
    Calls Tryz.prog 31 #[za, zd] w fun e w' => ∃ z p q, e = .returned z ∧ IsQN 0 w' z p q ∧ IsLow (x1 * y2 + x2 * y1) (y1 * y2) p q ∧ Below w.heap.size w w' := by
  have HQA := hidG ha
  have HQD := hidG hd
  have HL := hidG hlt
  have HD := hidG hden
  obtain ⟨a0, an, aa, al, ac, b0, bn, ba, bl, bc, rfl, h1, h2⟩ := ha
  obtain ⟨d0, dn, da, dl, dc, e0, en, ea, el, ec, rfl, h3, h4⟩ := hd
  have H1 := hidG h1
  have H2 := hidG h2
  have H3 := hidG h3
  have H4 := hidG h4
  have HBW := hidG hBw
  clear h1 h2 h3 h4 hBw hlt hden
  have HSUM : Hid ((x1 * y2 + x2 * y1).natAbs < lb 12001) := add_lt (mul_lt HL.out.1 HL.out.2.2.2) (mul_lt HL.out.2.2.1 HL.out.2.1)
  obtain ⟨W0, hW0⟩ : ∃ W0, ((w.alloc (.cells #[.int .i64 a0, .bool an, .slice aa al ac, .int .i64 b0, .bool bn, .slice ba bl bc] 43)).alloc (.cells #[.int .i64 d0, .bool dn, .slice da dl dc, .int .i64 e0, .bool en, .slice ea el ec] 43)).alloc (.cells #[.int .i64 0, .bool false, .slice none 0 0, .int .i64 0, .bool false, .slice none 0 0] 43) = W0 := ⟨_, rfl⟩
  have HW0 := hidG hW0
  have HB0 : Hid (Below w.heap.size w W0) := by show Below w.heap.size w W0; rw [← hW0]; exact below_al (below_al (below_alloc _ _) _) _
  have hx0 : BxT w.heap.size W0 a0 an aa al ac b0 bn ba bl bc d0 dn da dl dc e0 en ea el ec := by
    refine ⟨?_, ?_, ?_⟩
    · rw [← hW0]; exact ((bx_new w _ _).alloc _).alloc _
    · rw [← hW0]
      have h := bx_new (w.alloc (.cells #[.int .i64 a0, .bool an, .slice aa al ac, .int .i64 b0, .bool bn, .slice ba bl bc] 43)) [.int .i64 d0, .bool dn, .slice da dl dc, .int .i64 e0, .bool en, .slice ea el ec] 43
      rw [World.size_alloc] at h
      exact h.alloc _
    · rw [← hW0]
      have h := bx_new ((w.alloc (.cells #[.int .i64 a0, .bool an, .slice aa al ac, .int .i64 b0, .bool bn, .slice ba bl bc] 43)).alloc (.cells #[.int .i64 d0, .bool dn, .slice da dl dc, .int .i64 e0, .bool en, .slice ea el ec] 43)) [.int .i64 0, .bool false, .slice none 0 0, .int .i64 0, .bool false, .slice none 0 0] 43
      rw [World.size_alloc, World.size_alloc] at h
      exact h
  have HX : Hid (∀ W, Below W0.heap.size W0 W → BxT w.heap.size W a0 an aa al ac b0 bn ba bl bc d0 dn da dl dc e0 en ea el ec) := fun W hW => hx0.below hx0.r.lt hW
  have T1 : Hid (∀ W, Below W0.heap.size W0 W → Calls Tryz.prog 50 #[.agg #[.int .i64 a0, .bool an, .slice aa al ac], .agg #[.int .i64 e0, .bool en, .slice ea el ec]] W (fun e w' => ∃ z, e = .returned z ∧ NumZ 0 w' z (x1 * y2) 12000 ∧ Below W.heap.size W w')) := fun W hW => by
    refine (l1MulN_any B _ _ _ _ 20000 20000 W (by have := HBW.out; have := HB0.out.size; have := hW.size; omega) ((H1.out.below HB0.out).below hW) ((H4.out.below HB0.out).below hW) (by omega) (by omega)).mono ?_
    rintro e w' ⟨z, rfl, hz, hb⟩
    exact ⟨z, rfl, numZ_lt hz (mul_lt HL.out.1 HL.out.2.2.2), hb⟩
  have T2 : Hid (∀ W, Below W0.heap.size W0 W → Calls Tryz.prog 50 #[.agg #[.int .i64 d0, .bool dn, .slice da dl dc], .agg #[.int .i64 b0, .bool bn, .slice ba bl bc]] W (fun e w' => ∃ z, e = .returned z ∧ NumZ 0 w' z (x2 * y1) 12000 ∧ Below W.heap.size W w')) := fun W hW => by
    refine (l1MulN_any B _ _ _ _ 20000 20000 W (by have := HBW.out; have := HB0.out.size; have := hW.size; omega) ((H3.out.below HB0.out).below hW) ((H2.out.below HB0.out).below hW) (by omega) (by omega)).mono ?_
    rintro e w' ⟨z, rfl, hz, hb⟩
    exact ⟨z, rfl, numZ_lt hz (mul_lt HL.out.2.2.1 HL.out.2.1), hb⟩
  have T3 : Hid (∀ W, Below W0.heap.size W0 W → Calls Tryz.prog 50 #[.agg #[.int .i64 b0, .bool bn, .slice ba bl bc], .agg #[.int .i64 e0, .bool en, .slice ea el ec]] W (fun e w' => ∃ z, e = .returned z ∧ NumZ 0 w' z (y1 * y2) 12000 ∧ Below W.heap.size W w')) := fun W hW => by
    refine (l1MulN_any B _ _ _ _ 20000 20000 W (by have := HBW.out; have := HB0.out.size; have := hW.size; omega) ((H2.out.below HB0.out).below hW) ((H4.out.below HB0.out).below hW) (by omega) (by omega)).mono ?_
    rintro e w' ⟨z, rfl, hz, hb⟩
    exact ⟨z, rfl, numZ_lt hz (mul_lt HL.out.2.1 HL.out.2.2.2), hb⟩
  have TW : Hid (∀ W, Below W0.heap.size W0 W → Calls Tryz.prog 48 #[.agg #[.int .i64 a0, .bool an, .slice aa al ac], .agg #[.int .i64 d0, .bool dn, .slice da dl dc]] W (fun e w' => ∃ z, e = .returned z ∧ NumZ 0 w' z (x1 + x2) 12001 ∧ Below W.heap.size W w')) := fun W hW => by
    refine (l1AddN_any B _ _ _ _ 20000 20000 W (by have := HBW.out; have := HB0.out.size; have := hW.size; omega) ((H1.out.below HB0.out).below hW) ((H3.out.below HB0.out).below hW) (by omega) (by omega)).mono ?_
    rintro e w' ⟨z, rfl, hz, hb⟩
    exact ⟨z, rfl, numZ_lt hz (add_lt (lb_le 6000 12000 (by decide) HL.out.1) (lb_le 6000 12000 (by decide) HL.out.2.2.1)), hb⟩
  have k0 := hx0.a.cell 0
  have k1 := hx0.a.cell 1
  have k2 := hx0.a.cell 2
  have k3 := hx0.a.cell 3
  have k4 := hx0.a.cell 4
  have k5 := hx0.a.cell 5
  simp only [List.getElem?_cons_zero, List.getElem?_cons_succ] at k0 k1 k2 k3 k4 k5
  have j0 := hx0.b.cell 0
  have j1 := hx0.b.cell 1
  have j2 := hx0.b.cell 2
  have j3 := hx0.b.cell 3
  have j4 := hx0.b.cell 4
  have j5 := hx0.b.cell 5
  simp only [List.getElem?_cons_zero, List.getElem?_cons_succ] at j0 j1 j2 j3 j4 j5
  clear hW0 hx0
  go_enter Tryz.func31, Tryz.ntmps31
  go_upto_region 1 with fail
  rw [HW0.out]
  go_wp2_with fail
  refine (l2Whole_any B _ x1 y1 W0 (by have := HBW.out; have := HB0.out.size; omega) (HQA.out.below HB0.out)).mono ?_
  rintro e w1 ⟨rfl, hb1⟩
  have HQ1 := hidG hb1
  have hx := HX.out w1 hb1
  clear hb1 k0 k1 k2 k3 k4 k5 j0 j1 j2 j3 j4 j5
  have k0 := hx.a.cell 0
  have k1 := hx.a.cell 1
  have k2 := hx.a.cell 2
  have k3 := hx.a.cell 3
  have k4 := hx.a.cell 4
  have k5 := hx.a.cell 5
  simp only [List.getElem?_cons_zero, List.getElem?_cons_succ] at k0 k1 k2 k3 k4 k5
  have j0 := hx.b.cell 0
  have j1 := hx.b.cell 1
  have j2 := hx.b.cell 2
  have j3 := hx.b.cell 3
  have j4 := hx.b.cell 4
  have j5 := hx.b.cell 5
  simp only [List.getElem?_cons_zero, List.getElem?_cons_succ] at j0 j1 j2 j3 j4 j5
  clear hx
  by_cases hy1 : y1 = 1
  · have z : decide (y1 = 1) = true := decide_eq_true hy1
    have HY1 := hidG hy1
    rw [z]
    clear z hy1
    go_wp2_with fail
    refine (l2Whole_any B _ x2 y2 w1 (by have := HBW.out; have := HB0.out.size; have := HQ1.out.size; omega) ((HQD.out.below HB0.out).below HQ1.out)).mono ?_
    rintro e w2 ⟨rfl, hb2⟩
    have HQ2 := hidG (HQ1.out.trans (hb2.mono HQ1.out.size))
    have hx := HX.out w2 HQ2.out
    clear hb2 k0 k1 k2 k3 k4 k5 j0 j1 j2 j3 j4 j5
    have k0 := hx.a.cell 0
    have k1 := hx.a.cell 1
    have k2 := hx.a.cell 2
    have k3 := hx.a.cell 3
    have k4 := hx.a.cell 4
    have k5 := hx.a.cell 5
    simp only [List.getElem?_cons_zero, List.getElem?_cons_succ] at k0 k1 k2 k3 k4 k5
    have j0 := hx.b.cell 0
    have j1 := hx.b.cell 1
    have j2 := hx.b.cell 2
    have j3 := hx.b.cell 3
    have j4 := hx.b.cell 4
    have j5 := hx.b.cell 5
    simp only [List.getElem?_cons_zero, List.getElem?_cons_succ] at j0 j1 j2 j3 j4 j5
    clear hx
    by_cases hy2 : y2 = 1
    · have z : decide (y2 = 1) = true := decide_eq_true hy2
      have HLO : Hid (IsLow (x1 * y2 + x2 * y1) (y1 * y2) (x1 + x2) y1) := by
        show IsLow (x1 * y2 + x2 * y1) (y1 * y2) (x1 + x2) y1
        have h := low_one (x1 + x2) _ _ HY1.out hy2
        rw [show x1 * y2 + x2 * y1 = x1 + x2 by rw [HY1.out, hy2, Int.mul_one, Int.mul_one]]
        exact h
      rw [z]
      clear z hy2
      go_wp2_with fail
      go_region_held3 (fun W => W.cell? ⟨w.heap.size, 0, none⟩ = some (.int .i64 a0) ∧ W.cell? ⟨w.heap.size, 1, none⟩ = some (.bool an) ∧ W.cell? ⟨w.heap.size, 2, none⟩ = some (.slice aa al ac) ∧ W.cell? ⟨w.heap.size, 3, none⟩ = some (.int .i64 b0) ∧ W.cell? ⟨w.heap.size, 4, none⟩ = some (.bool bn) ∧ W.cell? ⟨w.heap.size, 5, none⟩ = some (.slice ba bl bc) ∧ W.cell? ⟨w.heap.size + 1, 0, none⟩ = some (.int .i64 d0) ∧ W.cell? ⟨w.heap.size + 1, 1, none⟩ = some (.bool dn) ∧ W.cell? ⟨w.heap.size + 1, 2, none⟩ = some (.slice da dl dc) ∧ W.cell? ⟨w.heap.size + 1, 3, none⟩ = some (.int .i64 e0) ∧ W.cell? ⟨w.heap.size + 1, 4, none⟩ = some (.bool en) ∧ W.cell? ⟨w.heap.size + 1, 5, none⟩ = some (.slice ea el ec)) (first | with_reducible assumption | with_reducible exact held_put6 (by with_reducible assumption) (w.heap.size + 1 + 1) (by omega) (by omega) _ _ _ _ _ _ | go_keep) (first
        | (go_at_call 48
           refine (TW.out _ ?_).mono ?_
           · exact HQ2.out.drew
           rintro e wm ⟨u, rfl, hu, hb⟩
           obtain ⟨g0, gn, ga, gl, gc, rfl⟩ := hu.isN.shape
           have HG := hidG (numZ_le hu (n := 20000) (by omega))
           have HTM : Hid (Below W0.heap.size W0 wm) := HQ2.out.drew.trans (hb.mono HQ2.out.size)
           have hxa := HX.out wm HTM.out
           have hSm := hxa.held
           have r0 := hxa.r.cell 0
           have r1 := hxa.r.cell 1
           have r2 := hxa.r.cell 2
           have r3 := hxa.r.cell 3
           have r4 := hxa.r.cell 4
           have r5 := hxa.r.cell 5
           simp only [List.getElem?_cons_zero, List.getElem?_cons_succ] at r0 r1 r2 r3 r4 r5
           have f0 := hxa.r.frozen 0
           have f1 := hxa.r.frozen 1
           have f2 := hxa.r.frozen 2
           have f3 := hxa.r.frozen 3
           have f4 := hxa.r.frozen 4
           have f5 := hxa.r.frozen 5
           clear hu hb hxa))
      all_goals
        try simp only [List.getElem_toArray, List.getElem_cons_succ, List.getElem_cons_zero, Act.put, List.setIfInBounds_toArray, List.set_cons_succ, List.set_cons_zero]
        go_wp2
        have hbw := (HX.out wm HTM.out).r
        have hnR : NoInt wm (w.heap.size + 1 + 1) := noInt_of hbw (by simp)
        have hk := keeps6 wm (w.heap.size + 1 + 1) (.int .i64 g0) (.bool gn) (.slice ga gl gc) (.int .i64 b0) (.bool bn) (.slice ba bl bc)
        have hP9 := (HG.out).keeps hnR hnR hk
        have hQ9 := (((H2.out.below HB0.out).below HTM.out).mono (Nat.zero_le _)).keeps hnR hnR hk
        have hB9 := set6 (HB0.out.trans (HTM.out.mono HB0.out.size)) (w.heap.size + 1 + 1) (by omega) (.int .i64 g0) (.bool gn) (.slice ga gl gc) (.int .i64 b0) (.bool bn) (.slice ba bl bc)
        have hZ := hbw.put6 (.int .i64 g0) (.bool gn) (.slice ga gl gc) (.int .i64 b0) (.bool bn) (.slice ba bl bc)
        have hWW : ((((((wm.setCell ⟨w.heap.size + 1 + 1, 0, none⟩ (.int .i64 g0)).setCell ⟨w.heap.size + 1 + 1, 1, none⟩ (.bool gn)).setCell ⟨w.heap.size + 1 + 1, 2, none⟩ (.slice ga gl gc)).setCell ⟨w.heap.size + 1 + 1, 3, none⟩ (.int .i64 b0)).setCell ⟨w.heap.size + 1 + 1, 4, none⟩ (.bool bn)).setCell ⟨w.heap.size + 1 + 1, 5, none⟩ (.slice ba bl bc)) = W6 wm (w.heap.size + 1 + 1) (.int .i64 g0) (.bool gn) (.slice ga gl gc) (.int .i64 b0) (.bool bn) (.slice ba bl bc) := rfl
        rw [hWW]
        generalize W6 wm (w.heap.size + 1 + 1) (.int .i64 g0) (.bool gn) (.slice ga gl gc) (.int .i64 b0) (.bool bn) (.slice ba bl bc) = W9 at *
        have o0 := hZ.cell 0
        have o1 := hZ.cell 1
        have o2 := hZ.cell 2
        have o3 := hZ.cell 3
        have o4 := hZ.cell 4
        have o5 := hZ.cell 5
        simp only [List.getElem?_cons_zero, List.getElem?_cons_succ] at o0 o1 o2 o3 o4 o5
        refine bodyPost_ret (v := .agg #[.int .i64 g0, .bool gn, .slice ga gl gc, .int .i64 b0, .bool bn, .slice ba bl bc]) ?_ rfl ⟨_, _, _, rfl, ⟨g0, gn, ga, gl, gc, b0, bn, ba, bl, bc, rfl, hP9, hQ9⟩, HLO.out, hB9⟩
        simp [results, Tryz.results31, go_sem, o0, o1, o2, o3, o4, o5]
    · have z : decide (y2 = 1) = false := decide_eq_false hy2
      rw [z]
      clear z hy2
      go_wp2_with fail
      go_region_held3 (fun W => W.cell? ⟨w.heap.size, 0, none⟩ = some (.int .i64 a0) ∧ W.cell? ⟨w.heap.size, 1, none⟩ = some (.bool an) ∧ W.cell? ⟨w.heap.size, 2, none⟩ = some (.slice aa al ac) ∧ W.cell? ⟨w.heap.size, 3, none⟩ = some (.int .i64 b0) ∧ W.cell? ⟨w.heap.size, 4, none⟩ = some (.bool bn) ∧ W.cell? ⟨w.heap.size, 5, none⟩ = some (.slice ba bl bc) ∧ W.cell? ⟨w.heap.size + 1, 0, none⟩ = some (.int .i64 d0) ∧ W.cell? ⟨w.heap.size + 1, 1, none⟩ = some (.bool dn) ∧ W.cell? ⟨w.heap.size + 1, 2, none⟩ = some (.slice da dl dc) ∧ W.cell? ⟨w.heap.size + 1, 3, none⟩ = some (.int .i64 e0) ∧ W.cell? ⟨w.heap.size + 1, 4, none⟩ = some (.bool en) ∧ W.cell? ⟨w.heap.size + 1, 5, none⟩ = some (.slice ea el ec)) (first | with_reducible assumption | with_reducible exact held_put6 (by with_reducible assumption) (w.heap.size + 1 + 1) (by omega) (by omega) _ _ _ _ _ _ | go_keep) (first
        | (go_at_call_of 50 (Value.int IntKind.i64 a0)
           refine (T1.out _ ?_).mono ?_
           · exact HQ2.out.drew
           rintro e wt1 ⟨u1, rfl, hu, hb⟩
           have HU1 := hidG hu
           have HT1 : Hid (Below W0.heap.size W0 wt1) := HQ2.out.drew.trans (hb.mono HQ2.out.size)
           have hS0 := (HX.out wt1 HT1.out).held
           clear hu hb)
        | (go_at_call_of 50 (Value.int IntKind.i64 d0)
           refine (T2.out _ ?_).mono ?_
           · exact HT1.out
           rintro e wt2 ⟨u2, rfl, hu, hb⟩
           have HU2 := hidG hu
           have HT2 : Hid (Below W0.heap.size W0 wt2) := HT1.out.trans (hb.mono HT1.out.size)
           have HV1 := hidG (HU1.out.below hb)
           have hS1 := (HX.out wt2 HT2.out).held
           clear hu hb)
        | (go_at_call 48
           refine (l1AddN_any 0 _ _ _ _ 12000 12000 _ (Nat.zero_le _) HV1.out HU2.out (by omega) (by omega)).mono ?_
           rintro e wp ⟨up, rfl, hu, hb⟩
           have HUP : Hid (NumZ 0 wp up (x1 * y2 + x2 * y1) 12001) := numZ_lt hu HSUM.out
           have HTP : Hid (Below W0.heap.size W0 wp) := HT2.out.trans (hb.mono HT2.out.size)
           have hSp := (HX.out wp HTP.out).held
           clear hu hb)
        | (go_at_call_of 50 (Value.int IntKind.i64 e0)
           refine (T3.out _ ?_).mono ?_
           · exact HTP.out
           rintro e wt3 ⟨u3, rfl, hu, hb⟩
           have HU3 := hidG hu
           have HT3 : Hid (Below W0.heap.size W0 wt3) := HTP.out.trans (hb.mono HTP.out.size)
           have HVP := hidG (HUP.out.below hb)
           have hS2 := (HX.out wt3 HT3.out).held
           clear hu hb)
        | (go_at_call 49
           refine (l2Make_any 0 _ _ (x1 * y2 + x2 * y1) (y1 * y2) _ (Nat.zero_le _) (numZ_le HVP.out (by omega)) (numZ_le HU3.out (by omega)) HD.out).mono ?_
           rintro e wm ⟨zr, p, q, rfl, hr, hlow, hb⟩
           have HLOW := hidG hlow
           have HTM : Hid (Below W0.heap.size W0 wm) := HT3.out.trans (hb.mono HT3.out.size)
           obtain ⟨g0, gn, ga, gl, gc, h0, hn, hA, hl, hc, rfl, hg, hh⟩ := hr
           have HG := hidG hg
           have HH := hidG hh
           have hxa := HX.out wm HTM.out
           have hSm := hxa.held
           have r0 := hxa.r.cell 0
           have r1 := hxa.r.cell 1
           have r2 := hxa.r.cell 2
           have r3 := hxa.r.cell 3
           have r4 := hxa.r.cell 4
           have r5 := hxa.r.cell 5
           simp only [List.getElem?_cons_zero, List.getElem?_cons_succ] at r0 r1 r2 r3 r4 r5
           have f0 := hxa.r.frozen 0
           have f1 := hxa.r.frozen 1
           have f2 := hxa.r.frozen 2
           have f3 := hxa.r.frozen 3
           have f4 := hxa.r.frozen 4
           have f5 := hxa.r.frozen 5
           clear hg hh hlow hb hxa))
      all_goals
        try simp only [List.getElem_toArray, List.getElem_cons_succ, List.getElem_cons_zero, Act.put, List.setIfInBounds_toArray, List.set_cons_succ, List.set_cons_zero]
        go_wp2
        have hbw := (HX.out wm HTM.out).r
        have hnR : NoInt wm (w.heap.size + 1 + 1) := noInt_of hbw (by simp)
        have hk := keeps6 wm (w.heap.size + 1 + 1) (.int .i64 g0) (.bool gn) (.slice ga gl gc) (.int .i64 h0) (.bool hn) (.slice hA hl hc)
        have hP9 := (HG.out).keeps hnR hnR hk
        have hQ9 := (HH.out).keeps hnR hnR hk
        have hB9 := set6 (HB0.out.trans (HTM.out.mono HB0.out.size)) (w.heap.size + 1 + 1) (by omega) (.int .i64 g0) (.bool gn) (.slice ga gl gc) (.int .i64 h0) (.bool hn) (.slice hA hl hc)
        have hZ := hbw.put6 (.int .i64 g0) (.bool gn) (.slice ga gl gc) (.int .i64 h0) (.bool hn) (.slice hA hl hc)
        have hWW : ((((((wm.setCell ⟨w.heap.size + 1 + 1, 0, none⟩ (.int .i64 g0)).setCell ⟨w.heap.size + 1 + 1, 1, none⟩ (.bool gn)).setCell ⟨w.heap.size + 1 + 1, 2, none⟩ (.slice ga gl gc)).setCell ⟨w.heap.size + 1 + 1, 3, none⟩ (.int .i64 h0)).setCell ⟨w.heap.size + 1 + 1, 4, none⟩ (.bool hn)).setCell ⟨w.heap.size + 1 + 1, 5, none⟩ (.slice hA hl hc)) = W6 wm (w.heap.size + 1 + 1) (.int .i64 g0) (.bool gn) (.slice ga gl gc) (.int .i64 h0) (.bool hn) (.slice hA hl hc) := rfl
        rw [hWW]
        generalize W6 wm (w.heap.size + 1 + 1) (.int .i64 g0) (.bool gn) (.slice ga gl gc) (.int .i64 h0) (.bool hn) (.slice hA hl hc) = W9 at *
        have o0 := hZ.cell 0
        have o1 := hZ.cell 1
        have o2 := hZ.cell 2
        have o3 := hZ.cell 3
        have o4 := hZ.cell 4
        have o5 := hZ.cell 5
        simp only [List.getElem?_cons_zero, List.getElem?_cons_succ] at o0 o1 o2 o3 o4 o5
        refine bodyPost_ret (v := .agg #[.int .i64 g0, .bool gn, .slice ga gl gc, .int .i64 h0, .bool hn, .slice hA hl hc]) ?_ rfl ⟨_, p, q, rfl, ⟨g0, gn, ga, gl, gc, h0, hn, hA, hl, hc, rfl, hP9, hQ9⟩, HLOW.out, hB9⟩
        simp [results, Tryz.results31, go_sem, o0, o1, o2, o3, o4, o5]
  · have z : decide (y1 = 1) = false := decide_eq_false hy1
    rw [z]
    clear z hy1
    go_wp2_with fail
    go_region_held3 (fun W => W.cell? ⟨w.heap.size, 0, none⟩ = some (.int .i64 a0) ∧ W.cell? ⟨w.heap.size, 1, none⟩ = some (.bool an) ∧ W.cell? ⟨w.heap.size, 2, none⟩ = some (.slice aa al ac) ∧ W.cell? ⟨w.heap.size, 3, none⟩ = some (.int .i64 b0) ∧ W.cell? ⟨w.heap.size, 4, none⟩ = some (.bool bn) ∧ W.cell? ⟨w.heap.size, 5, none⟩ = some (.slice ba bl bc) ∧ W.cell? ⟨w.heap.size + 1, 0, none⟩ = some (.int .i64 d0) ∧ W.cell? ⟨w.heap.size + 1, 1, none⟩ = some (.bool dn) ∧ W.cell? ⟨w.heap.size + 1, 2, none⟩ = some (.slice da dl dc) ∧ W.cell? ⟨w.heap.size + 1, 3, none⟩ = some (.int .i64 e0) ∧ W.cell? ⟨w.heap.size + 1, 4, none⟩ = some (.bool en) ∧ W.cell? ⟨w.heap.size + 1, 5, none⟩ = some (.slice ea el ec)) (first | with_reducible assumption | with_reducible exact held_put6 (by with_reducible assumption) (w.heap.size + 1 + 1) (by omega) (by omega) _ _ _ _ _ _ | go_keep) (first
      | (go_at_call_of 50 (Value.int IntKind.i64 a0)
         refine (T1.out _ ?_).mono ?_
         · exact HQ1.out.drew
         rintro e wt1 ⟨u1, rfl, hu, hb⟩
         have HU1 := hidG hu
         have HT1 : Hid (Below W0.heap.size W0 wt1) := HQ1.out.drew.trans (hb.mono HQ1.out.size)
         have hS0 := (HX.out wt1 HT1.out).held
         clear hu hb)
      | (go_at_call_of 50 (Value.int IntKind.i64 d0)
         refine (T2.out _ ?_).mono ?_
         · exact HT1.out
         rintro e wt2 ⟨u2, rfl, hu, hb⟩
         have HU2 := hidG hu
         have HT2 : Hid (Below W0.heap.size W0 wt2) := HT1.out.trans (hb.mono HT1.out.size)
         have HV1 := hidG (HU1.out.below hb)
         have hS1 := (HX.out wt2 HT2.out).held
         clear hu hb)
      | (go_at_call 48
         refine (l1AddN_any 0 _ _ _ _ 12000 12000 _ (Nat.zero_le _) HV1.out HU2.out (by omega) (by omega)).mono ?_
         rintro e wp ⟨up, rfl, hu, hb⟩
         have HUP : Hid (NumZ 0 wp up (x1 * y2 + x2 * y1) 12001) := numZ_lt hu HSUM.out
         have HTP : Hid (Below W0.heap.size W0 wp) := HT2.out.trans (hb.mono HT2.out.size)
         have hSp := (HX.out wp HTP.out).held
         clear hu hb)
      | (go_at_call_of 50 (Value.int IntKind.i64 e0)
         refine (T3.out _ ?_).mono ?_
         · exact HTP.out
         rintro e wt3 ⟨u3, rfl, hu, hb⟩
         have HU3 := hidG hu
         have HT3 : Hid (Below W0.heap.size W0 wt3) := HTP.out.trans (hb.mono HTP.out.size)
         have HVP := hidG (HUP.out.below hb)
         have hS2 := (HX.out wt3 HT3.out).held
         clear hu hb)
      | (go_at_call 49
         refine (l2Make_any 0 _ _ (x1 * y2 + x2 * y1) (y1 * y2) _ (Nat.zero_le _) (numZ_le HVP.out (by omega)) (numZ_le HU3.out (by omega)) HD.out).mono ?_
         rintro e wm ⟨zr, p, q, rfl, hr, hlow, hb⟩
         have HLOW := hidG hlow
         have HTM : Hid (Below W0.heap.size W0 wm) := HT3.out.trans (hb.mono HT3.out.size)
         obtain ⟨g0, gn, ga, gl, gc, h0, hn, hA, hl, hc, rfl, hg, hh⟩ := hr
         have HG := hidG hg
         have HH := hidG hh
         have hxa := HX.out wm HTM.out
         have hSm := hxa.held
         have r0 := hxa.r.cell 0
         have r1 := hxa.r.cell 1
         have r2 := hxa.r.cell 2
         have r3 := hxa.r.cell 3
         have r4 := hxa.r.cell 4
         have r5 := hxa.r.cell 5
         simp only [List.getElem?_cons_zero, List.getElem?_cons_succ] at r0 r1 r2 r3 r4 r5
         have f0 := hxa.r.frozen 0
         have f1 := hxa.r.frozen 1
         have f2 := hxa.r.frozen 2
         have f3 := hxa.r.frozen 3
         have f4 := hxa.r.frozen 4
         have f5 := hxa.r.frozen 5
         clear hg hh hlow hb hxa))
    all_goals
      try simp only [List.getElem_toArray, List.getElem_cons_succ, List.getElem_cons_zero, Act.put, List.setIfInBounds_toArray, List.set_cons_succ, List.set_cons_zero]
      go_wp2
      have hbw := (HX.out wm HTM.out).r
      have hnR : NoInt wm (w.heap.size + 1 + 1) := noInt_of hbw (by simp)
      have hk := keeps6 wm (w.heap.size + 1 + 1) (.int .i64 g0) (.bool gn) (.slice ga gl gc) (.int .i64 h0) (.bool hn) (.slice hA hl hc)
      have hP9 := (HG.out).keeps hnR hnR hk
      have hQ9 := (HH.out).keeps hnR hnR hk
      have hB9 := set6 (HB0.out.trans (HTM.out.mono HB0.out.size)) (w.heap.size + 1 + 1) (by omega) (.int .i64 g0) (.bool gn) (.slice ga gl gc) (.int .i64 h0) (.bool hn) (.slice hA hl hc)
      have hZ := hbw.put6 (.int .i64 g0) (.bool gn) (.slice ga gl gc) (.int .i64 h0) (.bool hn) (.slice hA hl hc)
      have hWW : ((((((wm.setCell ⟨w.heap.size + 1 + 1, 0, none⟩ (.int .i64 g0)).setCell ⟨w.heap.size + 1 + 1, 1, none⟩ (.bool gn)).setCell ⟨w.heap.size + 1 + 1, 2, none⟩ (.slice ga gl gc)).setCell ⟨w.heap.size + 1 + 1, 3, none⟩ (.int .i64 h0)).setCell ⟨w.heap.size + 1 + 1, 4, none⟩ (.bool hn)).setCell ⟨w.heap.size + 1 + 1, 5, none⟩ (.slice hA hl hc)) = W6 wm (w.heap.size + 1 + 1) (.int .i64 g0) (.bool gn) (.slice ga gl gc) (.int .i64 h0) (.bool hn) (.slice hA hl hc) := rfl
      rw [hWW]
      generalize W6 wm (w.heap.size + 1 + 1) (.int .i64 g0) (.bool gn) (.slice ga gl gc) (.int .i64 h0) (.bool hn) (.slice hA hl hc) = W9 at *
      have o0 := hZ.cell 0
      have o1 := hZ.cell 1
      have o2 := hZ.cell 2
      have o3 := hZ.cell 3
      have o4 := hZ.cell 4
      have o5 := hZ.cell 5
      simp only [List.getElem?_cons_zero, List.getElem?_cons_succ] at o0 o1 o2 o3 o4 o5
      refine bodyPost_ret (v := .agg #[.int .i64 g0, .bool gn, .slice ga gl gc, .int .i64 h0, .bool hn, .slice hA hl hc]) ?_ rfl ⟨_, p, q, rfl, ⟨g0, gn, ga, gl, gc, h0, hn, hA, hl, hc, rfl, hP9, hQ9⟩, HLOW.out, hB9⟩
      simp [results, Tryz.results31, go_sem, o0, o1, o2, o3, o4, o5]
end Go.Proofs.YtpimiboiogfhbaaGreatDoor
namespace Go.Proofs.YtpimiboiogfhbaaGreatDoor
open Go.ChangeShapes Go.WideShapes Go.ChangeAt Go.RowKit
theorem keepsC6 (W : World) (g : Nat) (u0 u1 u2 u3 u4 u5 : Value) : Keeps g g W ((((((W.setCell ⟨g, 0, none⟩ (u0)).setCell ⟨g, 1, none⟩ (u1)).setCell ⟨g, 2, none⟩ (u2)).setCell ⟨g, 3, none⟩ (u3)).setCell ⟨g, 4, none⟩ (u4)).setCell ⟨g, 5, none⟩ (u5)) :=
  Keeps.setCell (Keeps.setCell (Keeps.setCell (Keeps.setCell (Keeps.setCell (Keeps.setCell (Keeps.refl g g W) ⟨g, 0, none⟩ u0 (Or.inl rfl)) ⟨g, 1, none⟩ u1 (Or.inl rfl)) ⟨g, 2, none⟩ u2 (Or.inl rfl)) ⟨g, 3, none⟩ u3 (Or.inl rfl)) ⟨g, 4, none⟩ u4 (Or.inl rfl)) ⟨g, 5, none⟩ u5 (Or.inl rfl)
theorem qn_mk {w : World} {a1 : Int} {n1 : Bool} {d1 : Option Addr} {l1 c1 : Nat} {a2 : Int} {n2 : Bool} {d2 : Option Addr} {l2 c2 : Nat} {x y : Int} (h1 : NumZ 0 w (.agg #[.int .i64 a1, .bool n1, .slice d1 l1 c1]) x 20000) (h2 : NumZ 0 w (.agg #[.int .i64 a2, .bool n2, .slice d2 l2 c2]) y 20000) : IsQN 0 w (.agg #[.int .i64 a1, .bool n1, .slice d1 l1 c1, .int .i64 a2, .bool n2, .slice d2 l2 c2]) x y := ⟨_, _, _, _, _, _, _, _, _, _, rfl, h1, h2⟩
set_option maxRecDepth 100000 in
set_option maxHeartbeats 2000000 in
theorem l2IntZ_any (w : World) :
    Calls Tryz.prog 30 #[.int .i64 0] w fun e w' => ∃ z, e = .returned z ∧ IsQN 0 w' z 0 1 ∧ Below w.heap.size w w' := by
  obtain ⟨W0, hW0⟩ : ∃ W0, w.alloc (.cells #[.int .i64 0, .bool false, .slice none 0 0, .int .i64 0, .bool false, .slice none 0 0] 43) = W0 := ⟨_, rfl⟩
  have HW0 := hidG hW0
  have HB0 : Hid (Below w.heap.size w W0) := by show Below w.heap.size w W0; rw [← hW0]; exact below_alloc _ _
  have HS0 : Hid (W0.heap.size = w.heap.size + 1) := by show W0.heap.size = _; rw [← hW0]; simp
  have hx0_0 : Bx W0 (w.heap.size) [.int .i64 0, .bool false, .slice none 0 0, .int .i64 0, .bool false, .slice none 0 0] := by
    rw [← hW0]
    exact bx_new w _ _
  have HX0 : Hid (∀ W, Below W0.heap.size W0 W → Bx W (w.heap.size) [.int .i64 0, .bool false, .slice none 0 0, .int .i64 0, .bool false, .slice none 0 0]) := fun W hW => hx0_0.below hx0_0.lt hW
  clear hW0 hx0_0
  go_enter Tryz.func30, Tryz.ntmps30
  go_upto_region 1 with fail
  rw [HW0.out]
  go_wp2_with fail
  refine (l1Small_any 0 _ (by decide) (by decide)).mono ?_
  rintro e w1 ⟨z1, rfl, hz1, hb1⟩
  obtain ⟨a1, n1, d1, l1, c1, rfl⟩ := hz1.shape'
  have HZ1 := hidG (hz1.mono' (B' := 0) (n' := 20000) (Nat.zero_le _) (by decide))
  have HC1 : Hid (Below W0.heap.size W0 w1) := hb1
  clear hz1 hb1
  go_wp2_with fail
  refine (l1Small_any 1 _ (by decide) (by decide)).mono ?_
  rintro e w2 ⟨z2, rfl, hz2, hb2⟩
  obtain ⟨a2, n2, d2, l2, c2, rfl⟩ := hz2.shape'
  have HZ2 := hidG (hz2.mono' (B' := 0) (n' := 20000) (Nat.zero_le _) (by decide))
  have HZ3 := hidG (HZ1.out.below hb2)
  have HC2 : Hid (Below W0.heap.size W0 w2) := HC1.out.trans (hb2.mono HC1.out.size)
  clear hz2 hb2
  have hbr := HX0.out w2 HC2.out
  have r0 := hbr.cell 0
  have r1 := hbr.cell 1
  have r2 := hbr.cell 2
  have r3 := hbr.cell 3
  have r4 := hbr.cell 4
  have r5 := hbr.cell 5
  simp only [List.getElem?_cons_zero, List.getElem?_cons_succ] at r0 r1 r2 r3 r4 r5
  have rf0 := hbr.frozen 0
  have rf1 := hbr.frozen 1
  have rf2 := hbr.frozen 2
  have rf3 := hbr.frozen 3
  have rf4 := hbr.frozen 4
  have rf5 := hbr.frozen 5
  clear hbr
  go_wp2
  have hbw := HX0.out w2 HC2.out
  have hnR : NoInt w2 (w.heap.size) := noInt_of hbw (by simp)
  have HK := keepsC6 w2 (w.heap.size) (.int .i64 a1) (.bool n1) (.slice d1 l1 c1) (.int .i64 a2) (.bool n2) (.slice d2 l2 c2)
  have hD1 := HZ3.out.keeps hnR hnR HK
  have hD2 := HZ2.out.keeps hnR hnR HK
  have hB9 : Below w.heap.size w ((((((w2.setCell ⟨w.heap.size, 0, none⟩ (.int .i64 a1)).setCell ⟨w.heap.size, 1, none⟩ (.bool n1)).setCell ⟨w.heap.size, 2, none⟩ (.slice d1 l1 c1)).setCell ⟨w.heap.size, 3, none⟩ (.int .i64 a2)).setCell ⟨w.heap.size, 4, none⟩ (.bool n2)).setCell ⟨w.heap.size, 5, none⟩ (.slice d2 l2 c2)) := (((((((HB0.out.trans (HC2.out.mono HB0.out.size)).setCell (p := ⟨w.heap.size, 0, none⟩) (by dsimp only; omega) (.int .i64 a1)).setCell (p := ⟨w.heap.size, 1, none⟩) (by dsimp only; omega) (.bool n1)).setCell (p := ⟨w.heap.size, 2, none⟩) (by dsimp only; omega) (.slice d1 l1 c1)).setCell (p := ⟨w.heap.size, 3, none⟩) (by dsimp only; omega) (.int .i64 a2)).setCell (p := ⟨w.heap.size, 4, none⟩) (by dsimp only; omega) (.bool n2)).setCell (p := ⟨w.heap.size, 5, none⟩) (by dsimp only; omega) (.slice d2 l2 c2))
  have hZ : Bx ((((((w2.setCell ⟨w.heap.size, 0, none⟩ (.int .i64 a1)).setCell ⟨w.heap.size, 1, none⟩ (.bool n1)).setCell ⟨w.heap.size, 2, none⟩ (.slice d1 l1 c1)).setCell ⟨w.heap.size, 3, none⟩ (.int .i64 a2)).setCell ⟨w.heap.size, 4, none⟩ (.bool n2)).setCell ⟨w.heap.size, 5, none⟩ (.slice d2 l2 c2)) (w.heap.size) [.int .i64 a1, .bool n1, .slice d1 l1 c1, .int .i64 a2, .bool n2, .slice d2 l2 c2] := ((((((hbw.set 0 (.int .i64 a1)).set 1 (.bool n1)).set 2 (.slice d1 l1 c1)).set 3 (.int .i64 a2)).set 4 (.bool n2)).set 5 (.slice d2 l2 c2))
  generalize (((((w2.setCell ⟨w.heap.size, 0, none⟩ (.int .i64 a1)).setCell ⟨w.heap.size, 1, none⟩ (.bool n1)).setCell ⟨w.heap.size, 2, none⟩ (.slice d1 l1 c1)).setCell ⟨w.heap.size, 3, none⟩ (.int .i64 a2)).setCell ⟨w.heap.size, 4, none⟩ (.bool n2)).setCell ⟨w.heap.size, 5, none⟩ (.slice d2 l2 c2) = W9 at *
  have v0 := hZ.cell 0
  have v1 := hZ.cell 1
  have v2 := hZ.cell 2
  have v3 := hZ.cell 3
  have v4 := hZ.cell 4
  have v5 := hZ.cell 5
  simp only [List.getElem?_cons_zero, List.getElem?_cons_succ] at v0 v1 v2 v3 v4 v5
  refine bodyPost_ret (v := .agg #[.int .i64 a1, .bool n1, .slice d1 l1 c1, .int .i64 a2, .bool n2, .slice d2 l2 c2]) ?_ rfl ⟨_, rfl, qn_mk hD1 hD2, hB9⟩
  simp [results, Tryz.results30, go_sem, v0, v1, v2, v3, v4, v5]
end Go.Proofs.YtpimiboiogfhbaaGreatDoor
