import Derived.Test.YtfmpapcfhoomkaaGreatDoorK2
import Derived.Test.YtfmpapcfhoomkaaGreatDoorRatK
import Derived.Test.YtfmpapcfhoomkaaGreatDoorMulBS
import Derived.Deep.RegionHeld3
import Derived.Test.YtfmpapcfhoomkaaGreatDoorQI
namespace Go.Proofs.YtfmpapcfhoomkaaGreatDoor
open Go.ChangeShapes Go.WideShapes Go.ChangeAt Go.RowKit
structure BxS (h : Nat) (W : World) (a0 : Int) (an : Bool) (aa : Option Addr) (al ac : Nat) (b0 : Int) (bn : Bool) (ba : Option Addr) (bl bc : Nat) (d0 : Int) (dn : Bool) (da : Option Addr) (dl dc : Nat) (e0 : Int) (en : Bool) (ea : Option Addr) (el ec : Nat) : Prop where
 a : Bx W h [.int .i64 a0, .bool an, .slice aa al ac, .int .i64 b0, .bool bn, .slice ba bl bc]
 b : Bx W (h + 1) [.int .i64 d0, .bool dn, .slice da dl dc, .int .i64 e0, .bool en, .slice ea el ec]
theorem BxS.below {h N : Nat} {W W' : World} {a0 : Int} {an : Bool} {aa : Option Addr} {al ac : Nat} {b0 : Int} {bn : Bool} {ba : Option Addr} {bl bc : Nat} {d0 : Int} {dn : Bool} {da : Option Addr} {dl dc : Nat} {e0 : Int} {en : Bool} {ea : Option Addr} {el ec : Nat} (m : BxS h W a0 an aa al ac b0 bn ba bl bc d0 dn da dl dc e0 en ea el ec) (hN : h + 2 ≤ N) (hb : Below N W W') : BxS h W' a0 an aa al ac b0 bn ba bl bc d0 dn da dl dc e0 en ea el ec :=
 ⟨m.a.below (by omega) hb, m.b.below (by omega) hb⟩
theorem BxS.held {h : Nat} {W : World} {a0 : Int} {an : Bool} {aa : Option Addr} {al ac : Nat} {b0 : Int} {bn : Bool} {ba : Option Addr} {bl bc : Nat} {d0 : Int} {dn : Bool} {da : Option Addr} {dl dc : Nat} {e0 : Int} {en : Bool} {ea : Option Addr} {el ec : Nat} (m : BxS h W a0 an aa al ac b0 bn ba bl bc d0 dn da dl dc e0 en ea el ec) : W.cell? ⟨h, 0, none⟩ = some (.int .i64 a0) ∧ W.cell? ⟨h, 1, none⟩ = some (.bool an) ∧ W.cell? ⟨h, 2, none⟩ = some (.slice aa al ac) ∧ W.cell? ⟨h, 3, none⟩ = some (.int .i64 b0) ∧ W.cell? ⟨h, 4, none⟩ = some (.bool bn) ∧ W.cell? ⟨h, 5, none⟩ = some (.slice ba bl bc) ∧ W.cell? ⟨h + 1, 0, none⟩ = some (.int .i64 d0) ∧ W.cell? ⟨h + 1, 1, none⟩ = some (.bool dn) ∧ W.cell? ⟨h + 1, 2, none⟩ = some (.slice da dl dc) ∧ W.cell? ⟨h + 1, 3, none⟩ = some (.int .i64 e0) ∧ W.cell? ⟨h + 1, 4, none⟩ = some (.bool en) ∧ W.cell? ⟨h + 1, 5, none⟩ = some (.slice ea el ec) :=
 ⟨m.a.cell 0, m.a.cell 1, m.a.cell 2, m.a.cell 3, m.a.cell 4, m.a.cell 5, m.b.cell 0, m.b.cell 1, m.b.cell 2, m.b.cell 3, m.b.cell 4, m.b.cell 5⟩
theorem l1MulN_any (B : Nat) (za zb : Value) (x y : Int) (n m : Nat) (w : World) (hBw : B ≤ w.heap.size) (ha : NumZ B w za x n) (hb : NumZ B w zb y m) (hn : n ≤ 100000) (hm : m ≤ 100000) :
  Calls Tryz.prog 49 #[za, zb] w fun e w' => ∃ z, e = .returned z ∧ IsN 0 w' z (x * y) ∧ Below w.heap.size w w' := by
 obtain ⟨na, a, hza, rfl, hla⟩ := ha
 obtain ⟨nb, b, hzb, rfl, hlb⟩ := hb
 refine (l1Mul_any B za zb na nb a b w hBw hza hzb (by omega) (by omega)).mono ?_
 rintro e w' ⟨z, rfl, hz, hb⟩
 exact ⟨z, rfl, hz.mono (Nat.zero_le _), hb⟩
theorem l1CmpN_any (B : Nat) (za zb : Value) (x y : Int) (w : World) (hBw : B ≤ w.heap.size) (ha : IsN B w za x) (hb : IsN B w zb y) :
  Calls Tryz.prog 50 #[za, zb] w fun e w' => e = .returned (.int .i64 (ordI x y)) ∧ Below w.heap.size w w' := by
 obtain ⟨na, a, hza, rfl⟩ := ha
 obtain ⟨nb, b, hzb, rfl⟩ := hb
 refine (l1Cmp_any B za zb na nb a b w hBw hza hzb).mono ?_
 rintro e w' ⟨rfl, hb⟩
 exact ⟨by rw [cmpI_ord na nb a b hza.1 hzb.1 hza.2.1 hzb.2.1], hb⟩
set_option maxRecDepth 100000 in
set_option maxHeartbeats 4000000 in
theorem l2Cmp_any (B : Nat) (za zd : Value) (x1 y1 x2 y2 : Int) (w : World) (hBw : B ≤ w.heap.size) (ha : IsQN B w za x1 y1) (hd : IsQN B w zd x2 y2) :
    Calls Tryz.prog 78 #[za, zd] w fun e w' => e = .returned (.int .i64 (ordI (x1 * y2) (x2 * y1))) ∧ Below w.heap.size w w' := by
  have HQA := hidG ha
  have HQD := hidG hd
  obtain ⟨a0, an, aa, al, ac, b0, bn, ba, bl, bc, rfl, h1, h2⟩ := ha
  obtain ⟨d0, dn, da, dl, dc, e0, en, ea, el, ec, rfl, h3, h4⟩ := hd
  have H1 := hidG h1
  have H2 := hidG h2
  have H3 := hidG h3
  have H4 := hidG h4
  have HBW := hidG hBw
  clear h1 h2 h3 h4 hBw
  obtain ⟨W0, hW0⟩ : ∃ W0, (w.alloc (.cells #[.int .i64 a0, .bool an, .slice aa al ac, .int .i64 b0, .bool bn, .slice ba bl bc] 70)).alloc (.cells #[.int .i64 d0, .bool dn, .slice da dl dc, .int .i64 e0, .bool en, .slice ea el ec] 70) = W0 := ⟨_, rfl⟩
  have HW0 := hidG hW0
  have HB0 : Hid (Below w.heap.size w W0) := by show Below w.heap.size w W0; rw [← hW0]; exact below_al (below_alloc _ _) _
  have hx0 : BxS w.heap.size W0 a0 an aa al ac b0 bn ba bl bc d0 dn da dl dc e0 en ea el ec := by
    refine ⟨?_, ?_⟩
    · rw [← hW0]; exact (bx_new w _ _).alloc _
    · rw [← hW0]
      have h := bx_new (w.alloc (.cells #[.int .i64 a0, .bool an, .slice aa al ac, .int .i64 b0, .bool bn, .slice ba bl bc] 70)) [.int .i64 d0, .bool dn, .slice da dl dc, .int .i64 e0, .bool en, .slice ea el ec] 70
      rw [World.size_alloc] at h
      exact h
  have HX : Hid (∀ W, Below W0.heap.size W0 W → BxS w.heap.size W a0 an aa al ac b0 bn ba bl bc d0 dn da dl dc e0 en ea el ec) := fun W hW => hx0.below hx0.b.lt hW
  have T1 : Hid (∀ W, Below W0.heap.size W0 W → Calls Tryz.prog 49 #[.agg #[.int .i64 a0, .bool an, .slice aa al ac], .agg #[.int .i64 e0, .bool en, .slice ea el ec]] W (fun e w' => ∃ z, e = .returned z ∧ IsN 0 w' z (x1 * y2) ∧ Below W.heap.size W w')) := fun W hW =>
    l1MulN_any B _ _ _ _ 1000 1000 W (by have := HBW.out; have := HB0.out.size; have := hW.size; omega) ((H1.out.below HB0.out).below hW) ((H4.out.below HB0.out).below hW) (by omega) (by omega)
  have T2 : Hid (∀ W, Below W0.heap.size W0 W → Calls Tryz.prog 49 #[.agg #[.int .i64 d0, .bool dn, .slice da dl dc], .agg #[.int .i64 b0, .bool bn, .slice ba bl bc]] W (fun e w' => ∃ z, e = .returned z ∧ IsN 0 w' z (x2 * y1) ∧ Below W.heap.size W w')) := fun W hW =>
    l1MulN_any B _ _ _ _ 1000 1000 W (by have := HBW.out; have := HB0.out.size; have := hW.size; omega) ((H3.out.below HB0.out).below hW) ((H2.out.below HB0.out).below hW) (by omega) (by omega)
  have HC : Hid (∀ W, Below W0.heap.size W0 W → Calls Tryz.prog 50 #[.agg #[.int .i64 a0, .bool an, .slice aa al ac], .agg #[.int .i64 d0, .bool dn, .slice da dl dc]] W (fun e w' => e = .returned (.int .i64 (ordI x1 x2)) ∧ Below W.heap.size W w')) := fun W hW =>
    l1CmpN_any B _ _ _ _ W (by have := HBW.out; have := HB0.out.size; have := hW.size; omega) ((H1.out.below HB0.out).below hW).isN ((H3.out.below HB0.out).below hW).isN
  have k0 := hx0.a.cell 0
  have k1 := hx0.a.cell 1
  have k2 := hx0.a.cell 2
  have k3 := hx0.a.cell 3
  have k4 := hx0.a.cell 4
  have k5 := hx0.a.cell 5
  simp only [List.getElem?_cons_zero, List.getElem?_cons_succ] at k0 k1 k2 k3 k4 k5
  have j0 := hx0.b.cell 0
  have j1 := hx0.b.cell 1
  have j2 := hx0.b.cell 2
  have j3 := hx0.b.cell 3
  have j4 := hx0.b.cell 4
  have j5 := hx0.b.cell 5
  simp only [List.getElem?_cons_zero, List.getElem?_cons_succ] at j0 j1 j2 j3 j4 j5
  clear hW0 hx0
  go_enter Tryz.func78, Tryz.ntmps78
  go_upto_region 1 with fail
  rw [HW0.out]
  go_wp2_with fail
  refine (l2Whole_any B _ x1 y1 W0 (by have := HBW.out; have := HB0.out.size; omega) (HQA.out.below HB0.out)).mono ?_
  rintro e w1 ⟨rfl, hb1⟩
  have HQ1 := hidG hb1
  have hx := HX.out w1 hb1
  clear hb1 k0 k1 k2 k3 k4 k5 j0 j1 j2 j3 j4 j5
  have k0 := hx.a.cell 0
  have k1 := hx.a.cell 1
  have k2 := hx.a.cell 2
  have k3 := hx.a.cell 3
  have k4 := hx.a.cell 4
  have k5 := hx.a.cell 5
  simp only [List.getElem?_cons_zero, List.getElem?_cons_succ] at k0 k1 k2 k3 k4 k5
  have j0 := hx.b.cell 0
  have j1 := hx.b.cell 1
  have j2 := hx.b.cell 2
  have j3 := hx.b.cell 3
  have j4 := hx.b.cell 4
  have j5 := hx.b.cell 5
  simp only [List.getElem?_cons_zero, List.getElem?_cons_succ] at j0 j1 j2 j3 j4 j5
  clear hx
  by_cases hy1 : y1 = 1
  · have z : decide (y1 = 1) = true := decide_eq_true hy1
    have HY1 := hidG hy1
    rw [z]
    clear z hy1
    go_wp2_with fail
    refine (l2Whole_any B _ x2 y2 w1 (by have := HBW.out; have := HB0.out.size; have := HQ1.out.size; omega) ((HQD.out.below HB0.out).below HQ1.out)).mono ?_
    rintro e w2 ⟨rfl, hb2⟩
    have HQ2 := hidG (HQ1.out.trans (hb2.mono HQ1.out.size))
    have hx := HX.out w2 HQ2.out
    clear hb2 k0 k1 k2 k3 k4 k5 j0 j1 j2 j3 j4 j5
    have k0 := hx.a.cell 0
    have k1 := hx.a.cell 1
    have k2 := hx.a.cell 2
    have k3 := hx.a.cell 3
    have k4 := hx.a.cell 4
    have k5 := hx.a.cell 5
    simp only [List.getElem?_cons_zero, List.getElem?_cons_succ] at k0 k1 k2 k3 k4 k5
    have j0 := hx.b.cell 0
    have j1 := hx.b.cell 1
    have j2 := hx.b.cell 2
    have j3 := hx.b.cell 3
    have j4 := hx.b.cell 4
    have j5 := hx.b.cell 5
    simp only [List.getElem?_cons_zero, List.getElem?_cons_succ] at j0 j1 j2 j3 j4 j5
    clear hx
    by_cases hy2 : y2 = 1
    · have z : decide (y2 = 1) = true := decide_eq_true hy2
      have HE : Hid (ordI x1 x2 = ordI (x1 * y2) (x2 * y1)) := by show ordI x1 x2 = ordI (x1 * y2) (x2 * y1); rw [HY1.out, hy2, Int.mul_one, Int.mul_one]
      rw [z]
      clear z hy2
      go_wp2_with fail
      refine (HC.out w2 HQ2.out).mono ?_
      rintro e w3 ⟨rfl, hb3⟩
      have HB9 := hidG (HB0.out.trans ((HQ2.out.trans (hb3.mono HQ2.out.size)).mono HB0.out.size))
      clear hb3 k0 k1 k2 k3 k4 k5 j0 j1 j2 j3 j4 j5
      go_wp2
      go_ret
      exact ⟨ret_int HE.out, HB9.out⟩
    · have z : decide (y2 = 1) = false := decide_eq_false hy2
      rw [z]
      clear z hy2
      go_wp2_with fail
      go_region_held3 (fun W => W.cell? ⟨w.heap.size, 0, none⟩ = some (.int .i64 a0) ∧ W.cell? ⟨w.heap.size, 1, none⟩ = some (.bool an) ∧ W.cell? ⟨w.heap.size, 2, none⟩ = some (.slice aa al ac) ∧ W.cell? ⟨w.heap.size, 3, none⟩ = some (.int .i64 b0) ∧ W.cell? ⟨w.heap.size, 4, none⟩ = some (.bool bn) ∧ W.cell? ⟨w.heap.size, 5, none⟩ = some (.slice ba bl bc) ∧ W.cell? ⟨w.heap.size + 1, 0, none⟩ = some (.int .i64 d0) ∧ W.cell? ⟨w.heap.size + 1, 1, none⟩ = some (.bool dn) ∧ W.cell? ⟨w.heap.size + 1, 2, none⟩ = some (.slice da dl dc) ∧ W.cell? ⟨w.heap.size + 1, 3, none⟩ = some (.int .i64 e0) ∧ W.cell? ⟨w.heap.size + 1, 4, none⟩ = some (.bool en) ∧ W.cell? ⟨w.heap.size + 1, 5, none⟩ = some (.slice ea el ec)) (first | assumption | go_keep) (first
        | (go_at_call_of 49 (Value.int IntKind.i64 a0)
           refine (T1.out _ ?_).mono ?_
           · exact HQ2.out.drew
           rintro e wa ⟨u, rfl, hu, hba⟩
           have HU := hidG hu
           have HBA : Hid (Below W0.heap.size W0 wa) := HQ2.out.drew.trans (hba.mono HQ2.out.size)
           have hSa := (HX.out wa HBA.out).held
           clear hu hba)
        | (go_at_call_of 49 (Value.int IntKind.i64 d0)
           refine (T2.out _ ?_).mono ?_
           · exact HBA.out
           rintro e wb ⟨v, rfl, hv, hbb⟩
           have HV := hidG hv
           have HBB := hidG (HBA.out.trans (hbb.mono HBA.out.size))
           have HU2 := hidG (HU.out.below hbb)
           have hSb := (HX.out wb HBB.out).held
           clear hv hbb)
        | (go_at_call 50
           refine (l1CmpN_any 0 _ _ _ _ _ (Nat.zero_le _) HU2.out HV.out).mono ?_
           rintro e wc ⟨rfl, hbc⟩
           have hSc := (HX.out wc (HBB.out.trans (hbc.mono HBB.out.size))).held
           have HBC := hidG (HB0.out.trans ((HBB.out.trans (hbc.mono HBB.out.size)).mono HB0.out.size))
           clear hbc))
      all_goals
        go_wp2
        go_ret
        exact ⟨rfl, HBC.out⟩
  · have z : decide (y1 = 1) = false := decide_eq_false hy1
    rw [z]
    clear z hy1
    go_wp2_with fail
    go_region_held3 (fun W => W.cell? ⟨w.heap.size, 0, none⟩ = some (.int .i64 a0) ∧ W.cell? ⟨w.heap.size, 1, none⟩ = some (.bool an) ∧ W.cell? ⟨w.heap.size, 2, none⟩ = some (.slice aa al ac) ∧ W.cell? ⟨w.heap.size, 3, none⟩ = some (.int .i64 b0) ∧ W.cell? ⟨w.heap.size, 4, none⟩ = some (.bool bn) ∧ W.cell? ⟨w.heap.size, 5, none⟩ = some (.slice ba bl bc) ∧ W.cell? ⟨w.heap.size + 1, 0, none⟩ = some (.int .i64 d0) ∧ W.cell? ⟨w.heap.size + 1, 1, none⟩ = some (.bool dn) ∧ W.cell? ⟨w.heap.size + 1, 2, none⟩ = some (.slice da dl dc) ∧ W.cell? ⟨w.heap.size + 1, 3, none⟩ = some (.int .i64 e0) ∧ W.cell? ⟨w.heap.size + 1, 4, none⟩ = some (.bool en) ∧ W.cell? ⟨w.heap.size + 1, 5, none⟩ = some (.slice ea el ec)) (first | assumption | go_keep) (first
      | (go_at_call_of 49 (Value.int IntKind.i64 a0)
         refine (T1.out _ ?_).mono ?_
         · exact HQ1.out.drew
         rintro e wa ⟨u, rfl, hu, hba⟩
         have HU := hidG hu
         have HBA : Hid (Below W0.heap.size W0 wa) := HQ1.out.drew.trans (hba.mono HQ1.out.size)
         have hSa := (HX.out wa HBA.out).held
         clear hu hba)
      | (go_at_call_of 49 (Value.int IntKind.i64 d0)
         refine (T2.out _ ?_).mono ?_
         · exact HBA.out
         rintro e wb ⟨v, rfl, hv, hbb⟩
         have HV := hidG hv
         have HBB := hidG (HBA.out.trans (hbb.mono HBA.out.size))
         have HU2 := hidG (HU.out.below hbb)
         have hSb := (HX.out wb HBB.out).held
         clear hv hbb)
      | (go_at_call 50
         refine (l1CmpN_any 0 _ _ _ _ _ (Nat.zero_le _) HU2.out HV.out).mono ?_
         rintro e wc ⟨rfl, hbc⟩
         have hSc := (HX.out wc (HBB.out.trans (hbc.mono HBB.out.size))).held
         have HBC := hidG (HB0.out.trans ((HBB.out.trans (hbc.mono HBB.out.size)).mono HB0.out.size))
         clear hbc))
    all_goals
      go_wp2
      go_ret
      exact ⟨rfl, HBC.out⟩
def IsResC (s t : ByteArray) (r : Int) : Prop := ∃ k m, IsCut s k ∧ IsCut t m ∧ ((∃ x1 y1 x2 y2, RatV s k x1 y1 ∧ RatV t m x2 y2 ∧ r = ordI (x1 * y2) (x2 * y1)) ∨ (¬ ((∃ x y, RatV s k x y) ∧ ∃ x y, RatV t m x y) ∧ r = -2))
theorem ratV_one {s : ByteArray} {k : Option Nat} {x y x' y' : Int} (h : RatV s k x y) (h' : RatV s k x' y') : x = x' ∧ y = y' := by
 cases k with
 | none => exact ⟨h.2.1.trans h'.2.1.symm, h.2.2.trans h'.2.2.symm⟩
 | some i => exact ⟨h.2.2.1.trans h'.2.2.1.symm, h.2.2.2.trans h'.2.2.2.symm⟩
theorem IsResC.eq {s t : ByteArray} {u v : Int} (h : IsResC s t u) (h' : IsResC s t v) : u = v := by
 obtain ⟨k, m, hk, hm, h⟩ := h
 obtain ⟨k', m', hk', hm', h'⟩ := h'
 obtain rfl := isCut_unique hk hk'
 obtain rfl := isCut_unique hm hm'
 rcases h with ⟨x1, y1, x2, y2, h1, h2, h3⟩ | ⟨h1, h2⟩ <;> rcases h' with ⟨x1', y1', x2', y2', h1', h2', h3'⟩ | ⟨h1', h2'⟩
 ·obtain ⟨rfl, rfl⟩ := ratV_one h1 h1'
  obtain ⟨rfl, rfl⟩ := ratV_one h2 h2'
  rw [h3, h3']
 ·exact absurd ⟨⟨_, _, h1⟩, _, _, h2⟩ h1'
 ·exact absurd ⟨⟨_, _, h1'⟩, _, _, h2'⟩ h1
 ·rw [h2, h2']
theorem qn_zero {B : Nat} {w : World} {z : Value} {x y : Int} (h : IsQN B w z x y) : IsQN 0 w z x y := by
 obtain ⟨p0, pn, pa, pl, pc, q0, qn, qa, ql, qc, e, h1, h2⟩ := h
 exact ⟨p0, pn, pa, pl, pc, q0, qn, qa, ql, qc, e, h1.mono (Nat.zero_le _), h2.mono (Nat.zero_le _)⟩
structure BxT (h : Nat) (W : World) (a0 : Int) (an : Bool) (aa : Option Addr) (al ac : Nat) (b0 : Int) (bn : Bool) (ba : Option Addr) (bl bc : Nat) (d0 : Int) (dn : Bool) (da : Option Addr) (dl dc : Nat) (e0 : Int) (en : Bool) (ea : Option Addr) (el ec : Nat) : Prop where
 a : Bx W h [.int .i64 a0, .bool an, .slice aa al ac, .int .i64 b0, .bool bn, .slice ba bl bc]
 b : Bx W (h + 1) [.int .i64 d0, .bool dn, .slice da dl dc, .int .i64 e0, .bool en, .slice ea el ec]
 r : Bx W (h + 1 + 1) [.int .i64 0, .bool false, .slice none 0 0, .int .i64 0, .bool false, .slice none 0 0]
theorem BxT.below {h N : Nat} {W W' : World} {a0 : Int} {an : Bool} {aa : Option Addr} {al ac : Nat} {b0 : Int} {bn : Bool} {ba : Option Addr} {bl bc : Nat} {d0 : Int} {dn : Bool} {da : Option Addr} {dl dc : Nat} {e0 : Int} {en : Bool} {ea : Option Addr} {el ec : Nat} (m : BxT h W a0 an aa al ac b0 bn ba bl bc d0 dn da dl dc e0 en ea el ec) (hN : h + 3 ≤ N) (hb : Below N W W') : BxT h W' a0 an aa al ac b0 bn ba bl bc d0 dn da dl dc e0 en ea el ec :=
 ⟨m.a.below (by omega) hb, m.b.below (by omega) hb, m.r.below (by omega) hb⟩
theorem BxT.held {h : Nat} {W : World} {a0 : Int} {an : Bool} {aa : Option Addr} {al ac : Nat} {b0 : Int} {bn : Bool} {ba : Option Addr} {bl bc : Nat} {d0 : Int} {dn : Bool} {da : Option Addr} {dl dc : Nat} {e0 : Int} {en : Bool} {ea : Option Addr} {el ec : Nat} (m : BxT h W a0 an aa al ac b0 bn ba bl bc d0 dn da dl dc e0 en ea el ec) : W.cell? ⟨h, 0, none⟩ = some (.int .i64 a0) ∧ W.cell? ⟨h, 1, none⟩ = some (.bool an) ∧ W.cell? ⟨h, 2, none⟩ = some (.slice aa al ac) ∧ W.cell? ⟨h, 3, none⟩ = some (.int .i64 b0) ∧ W.cell? ⟨h, 4, none⟩ = some (.bool bn) ∧ W.cell? ⟨h, 5, none⟩ = some (.slice ba bl bc) ∧ W.cell? ⟨h + 1, 0, none⟩ = some (.int .i64 d0) ∧ W.cell? ⟨h + 1, 1, none⟩ = some (.bool dn) ∧ W.cell? ⟨h + 1, 2, none⟩ = some (.slice da dl dc) ∧ W.cell? ⟨h + 1, 3, none⟩ = some (.int .i64 e0) ∧ W.cell? ⟨h + 1, 4, none⟩ = some (.bool en) ∧ W.cell? ⟨h + 1, 5, none⟩ = some (.slice ea el ec) :=
 ⟨m.a.cell 0, m.a.cell 1, m.a.cell 2, m.a.cell 3, m.a.cell 4, m.a.cell 5, m.b.cell 0, m.b.cell 1, m.b.cell 2, m.b.cell 3, m.b.cell 4, m.b.cell 5⟩
theorem l1AddN_any (B : Nat) (za zb : Value) (x y : Int) (n m : Nat) (w : World) (hBw : B ≤ w.heap.size) (ha : NumZ B w za x n) (hb : NumZ B w zb y m) (hn : n ≤ 100000) (hm : m ≤ 100000) :
  Calls Tryz.prog 44 #[za, zb] w fun e w' => ∃ z, e = .returned z ∧ IsN 0 w' z (x + y) ∧ Below w.heap.size w w' := by
 obtain ⟨na, a, hza, rfl, hla⟩ := ha
 obtain ⟨nb, b, hzb, rfl, hlb⟩ := hb
 refine (l1Add_any B za zb na nb a b w hBw hza hzb (by omega) (by omega)).mono ?_
 rintro e w' ⟨z, rfl, hz, hb⟩
 exact ⟨z, rfl, hz.mono (Nat.zero_le _), hb⟩
def IsResQ (N D : Int → Int → Int → Int → Int) (ok : Int → Prop) (s t u : ByteArray) : Prop := ∃ k m, IsCut s k ∧ IsCut t m ∧ ((∃ x1 y1 x2 y2 p q, RatV s k x1 y1 ∧ RatV t m x2 y2 ∧ ok x2 ∧ IsLow (N x1 y1 x2 y2) (D x1 y1 x2 y2) p q ∧ TextR p q u) ∨ (¬ (∃ x1 y1 x2 y2, RatV s k x1 y1 ∧ RatV t m x2 y2 ∧ ok x2) ∧ u = ⟨#[]⟩))
theorem IsResQ.eq {N D : Int → Int → Int → Int → Int} {ok : Int → Prop} {s t u v : ByteArray} (h : IsResQ N D ok s t u) (h' : IsResQ N D ok s t v) : u = v := by
 obtain ⟨k, m, hk, hm, h⟩ := h
 obtain ⟨k', m', hk', hm', h'⟩ := h'
 obtain rfl := isCut_unique hk hk'
 obtain rfl := isCut_unique hm hm'
 rcases h with ⟨x1, y1, x2, y2, p, q, h1, h2, h3, h4, h5⟩ | ⟨h1, h2⟩ <;> rcases h' with ⟨x1', y1', x2', y2', p', q', h1', h2', h3', h4', h5'⟩ | ⟨h1', h2'⟩
 ·obtain ⟨rfl, rfl⟩ := ratV_one h1 h1'
  obtain ⟨rfl, rfl⟩ := ratV_one h2 h2'
  obtain ⟨rfl, rfl⟩ := isLow_unique h4 h4'
  exact h5.eq h5'
 ·exact absurd ⟨_, _, _, _, h1, h2, h3⟩ h1'
 ·exact absurd ⟨_, _, _, _, h1', h2', h3'⟩ h1
 ·rw [h2, h2']
end Go.Proofs.YtfmpapcfhoomkaaGreatDoor
