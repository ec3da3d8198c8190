import Derived.Test.YtpjnglcojamfmaaGreatDoorK2
import Derived.Test.YtpjnglcojamfmaaGreatDoorRatK
import Derived.Test.YtpjnglcojamfmaaGreatDoorMulSpec
import Derived.Deep.RegionHeld3
import Derived.Test.YtpjnglcojamfmaaGreatDoorQI
namespace Go.Proofs.YtpjnglcojamfmaaGreatDoor
open Go.ChangeShapes Go.WideShapes Go.ChangeAt Go.RowKit
/-- Two boxes of the specification's rationals. -/
structure BxS (h : Nat) (W : World) (a0 : Int) (an : Bool) (aa : Option Addr) (al ac : Nat) (b0 : Int) (bn : Bool) (ba : Option Addr) (bl bc : Nat) (d0 : Int) (dn : Bool) (da : Option Addr) (dl dc : Nat) (e0 : Int) (en : Bool) (ea : Option Addr) (el ec : Nat) : Prop where
  a : Bx W h [.int .i64 a0, .bool an, .slice aa al ac, .int .i64 b0, .bool bn, .slice ba bl bc]
  b : Bx W (h + 1) [.int .i64 d0, .bool dn, .slice da dl dc, .int .i64 e0, .bool en, .slice ea el ec]
theorem BxS.below {h N : Nat} {W W' : World} {a0 : Int} {an : Bool} {aa : Option Addr} {al ac : Nat} {b0 : Int} {bn : Bool} {ba : Option Addr} {bl bc : Nat} {d0 : Int} {dn : Bool} {da : Option Addr} {dl dc : Nat} {e0 : Int} {en : Bool} {ea : Option Addr} {el ec : Nat} (m : BxS h W a0 an aa al ac b0 bn ba bl bc d0 dn da dl dc e0 en ea el ec) (hN : h + 2 ≤ N) (hb : Below N W W') : BxS h W' a0 an aa al ac b0 bn ba bl bc d0 dn da dl dc e0 en ea el ec :=
  ⟨m.a.below (by omega) hb, m.b.below (by omega) hb⟩
theorem BxS.held {h : Nat} {W : World} {a0 : Int} {an : Bool} {aa : Option Addr} {al ac : Nat} {b0 : Int} {bn : Bool} {ba : Option Addr} {bl bc : Nat} {d0 : Int} {dn : Bool} {da : Option Addr} {dl dc : Nat} {e0 : Int} {en : Bool} {ea : Option Addr} {el ec : Nat} (m : BxS h W a0 an aa al ac b0 bn ba bl bc d0 dn da dl dc e0 en ea el ec) : W.cell? ⟨h, 0, none⟩ = some (.int .i64 a0) ∧ W.cell? ⟨h, 1, none⟩ = some (.bool an) ∧ W.cell? ⟨h, 2, none⟩ = some (.slice aa al ac) ∧ W.cell? ⟨h, 3, none⟩ = some (.int .i64 b0) ∧ W.cell? ⟨h, 4, none⟩ = some (.bool bn) ∧ W.cell? ⟨h, 5, none⟩ = some (.slice ba bl bc) ∧ W.cell? ⟨h + 1, 0, none⟩ = some (.int .i64 d0) ∧ W.cell? ⟨h + 1, 1, none⟩ = some (.bool dn) ∧ W.cell? ⟨h + 1, 2, none⟩ = some (.slice da dl dc) ∧ W.cell? ⟨h + 1, 3, none⟩ = some (.int .i64 e0) ∧ W.cell? ⟨h + 1, 4, none⟩ = some (.bool en) ∧ W.cell? ⟨h + 1, 5, none⟩ = some (.slice ea el ec) :=
  ⟨m.a.cell 0, m.a.cell 1, m.a.cell 2, m.a.cell 3, m.a.cell 4, m.a.cell 5, m.b.cell 0, m.b.cell 1, m.b.cell 2, m.b.cell 3, m.b.cell 4, m.b.cell 5⟩
theorem l1MulN_any (B : Nat) (za zb : Value) (x y : Int) (n m : Nat) (w : World) (hBw : B ≤ w.heap.size) (ha : NumZ B w za x n) (hb : NumZ B w zb y m) (hn : n ≤ 100000) (hm : m ≤ 100000) :
    Calls Tryz.prog 52 #[za, zb] w fun e w' => ∃ z, e = .returned z ∧ IsN 0 w' z (x * y) ∧ Below w.heap.size w w' := by
  obtain ⟨na, a, hza, rfl, hla⟩ := ha
  obtain ⟨nb, b, hzb, rfl, hlb⟩ := hb
  refine (l1Mul_any B za zb na nb a b w hBw hza hzb (by omega) (by omega)).mono ?_
  rintro e w' ⟨z, rfl, hz, hb⟩
  exact ⟨z, rfl, hz.mono (Nat.zero_le _), hb⟩
theorem l1CmpN_any (B : Nat) (za zb : Value) (x y : Int) (w : World) (hBw : B ≤ w.heap.size) (ha : IsN B w za x) (hb : IsN B w zb y) :
    Calls Tryz.prog 53 #[za, zb] w fun e w' => e = .returned (.int .i64 (ordI x y)) ∧ Below w.heap.size w w' := by
  obtain ⟨na, a, hza, rfl⟩ := ha
  obtain ⟨nb, b, hzb, rfl⟩ := hb
  refine (l1Cmp_any B za zb na nb a b w hBw hza hzb).mono ?_
  rintro e w' ⟨rfl, hb⟩
  exact ⟨by rw [cmpI_ord na nb a b hza.1 hzb.1 hza.2.1 hzb.2.1], hb⟩
set_option maxRecDepth 100000 in
set_option maxHeartbeats 4000000 in
theorem l2Cmp_any (B : Nat) (za zd : Value) (x1 y1 x2 y2 : Int) (w : World) (hBw : B ≤ w.heap.size) (ha : IsQN B w za x1 y1) (hd : IsQN B w zd x2 y2) :
    Calls Tryz.prog 81 #[za, zd] w fun e w' => e = .returned (.int .i64 (ordI (x1 * y2) (x2 * y1))) ∧ Below w.heap.size w w' := by
  have HQA := hidG ha
  have HQD := hidG hd
  obtain ⟨a0, an, aa, al, ac, b0, bn, ba, bl, bc, rfl, h1, h2⟩ := ha
  obtain ⟨d0, dn, da, dl, dc, e0, en, ea, el, ec, rfl, h3, h4⟩ := hd
  have H1 := hidG h1
  have H2 := hidG h2
  have H3 := hidG h3
  have H4 := hidG h4
  have HBW := hidG hBw
  clear h1 h2 h3 h4 hBw
  obtain ⟨W0, hW0⟩ : ∃ W0, (w.alloc (.cells #[.int .i64 a0, .bool an, .slice aa al ac, .int .i64 b0, .bool bn, .slice ba bl bc] 71)).alloc (.cells #[.int .i64 d0, .bool dn, .slice da dl dc, .int .i64 e0, .bool en, .slice ea el ec] 71) = W0 := ⟨_, rfl⟩
  have HW0 := hidG hW0
  have HB0 : Hid (Below w.heap.size w W0) := by show Below w.heap.size w W0; rw [← hW0]; exact below_al (below_alloc _ _) _
  have hx0 : BxS w.heap.size W0 a0 an aa al ac b0 bn ba bl bc d0 dn da dl dc e0 en ea el ec := by
    refine ⟨?_, ?_⟩
    · rw [← hW0]; exact (bx_new w _ _).alloc _
    · rw [← hW0]
      have h := bx_new (w.alloc (.cells #[.int .i64 a0, .bool an, .slice aa al ac, .int .i64 b0, .bool bn, .slice ba bl bc] 71)) [.int .i64 d0, .bool dn, .slice da dl dc, .int .i64 e0, .bool en, .slice ea el ec] 71
      rw [World.size_alloc] at h
      exact h
  have HX : Hid (∀ W, Below W0.heap.size W0 W → BxS w.heap.size W a0 an aa al ac b0 bn ba bl bc d0 dn da dl dc e0 en ea el ec) := fun W hW => hx0.below hx0.b.lt hW
  have T1 : Hid (∀ W, Below W0.heap.size W0 W → Calls Tryz.prog 52 #[.agg #[.int .i64 a0, .bool an, .slice aa al ac], .agg #[.int .i64 e0, .bool en, .slice ea el ec]] W (fun e w' => ∃ z, e = .returned z ∧ IsN 0 w' z (x1 * y2) ∧ Below W.heap.size W w')) := fun W hW =>
    l1MulN_any B _ _ _ _ 1000 1000 W (by have := HBW.out; have := HB0.out.size; have := hW.size; omega) ((H1.out.below HB0.out).below hW) ((H4.out.below HB0.out).below hW) (by omega) (by omega)
  have T2 : Hid (∀ W, Below W0.heap.size W0 W → Calls Tryz.prog 52 #[.agg #[.int .i64 d0, .bool dn, .slice da dl dc], .agg #[.int .i64 b0, .bool bn, .slice ba bl bc]] W (fun e w' => ∃ z, e = .returned z ∧ IsN 0 w' z (x2 * y1) ∧ Below W.heap.size W w')) := fun W hW =>
    l1MulN_any B _ _ _ _ 1000 1000 W (by have := HBW.out; have := HB0.out.size; have := hW.size; omega) ((H3.out.below HB0.out).below hW) ((H2.out.below HB0.out).below hW) (by omega) (by omega)
  have HC : Hid (∀ W, Below W0.heap.size W0 W → Calls Tryz.prog 53 #[.agg #[.int .i64 a0, .bool an, .slice aa al ac], .agg #[.int .i64 d0, .bool dn, .slice da dl dc]] W (fun e w' => e = .returned (.int .i64 (ordI x1 x2)) ∧ Below W.heap.size W w')) := fun W hW =>
    l1CmpN_any B _ _ _ _ W (by have := HBW.out; have := HB0.out.size; have := hW.size; omega) ((H1.out.below HB0.out).below hW).isN ((H3.out.below HB0.out).below hW).isN
  have k0 := hx0.a.cell 0
  have k1 := hx0.a.cell 1
  have k2 := hx0.a.cell 2
  have k3 := hx0.a.cell 3
  have k4 := hx0.a.cell 4
  have k5 := hx0.a.cell 5
  simp only [List.getElem?_cons_zero, List.getElem?_cons_succ] at k0 k1 k2 k3 k4 k5
  have j0 := hx0.b.cell 0
  have j1 := hx0.b.cell 1
  have j2 := hx0.b.cell 2
  have j3 := hx0.b.cell 3
  have j4 := hx0.b.cell 4
  have j5 := hx0.b.cell 5
  simp only [List.getElem?_cons_zero, List.getElem?_cons_succ] at j0 j1 j2 j3 j4 j5
  clear hW0 hx0
  go_enter Tryz.func81, Tryz.ntmps81
  go_upto_region 1 with fail
  rw [HW0.out]
  go_wp2_with fail
  refine (l2Whole_any B _ x1 y1 W0 (by have := HBW.out; have := HB0.out.size; omega) (HQA.out.below HB0.out)).mono ?_
  rintro e w1 ⟨rfl, hb1⟩
  have HQ1 := hidG hb1
  have hx := HX.out w1 hb1
  clear hb1 k0 k1 k2 k3 k4 k5 j0 j1 j2 j3 j4 j5
  have k0 := hx.a.cell 0
  have k1 := hx.a.cell 1
  have k2 := hx.a.cell 2
  have k3 := hx.a.cell 3
  have k4 := hx.a.cell 4
  have k5 := hx.a.cell 5
  simp only [List.getElem?_cons_zero, List.getElem?_cons_succ] at k0 k1 k2 k3 k4 k5
  have j0 := hx.b.cell 0
  have j1 := hx.b.cell 1
  have j2 := hx.b.cell 2
  have j3 := hx.b.cell 3
  have j4 := hx.b.cell 4
  have j5 := hx.b.cell 5
  simp only [List.getElem?_cons_zero, List.getElem?_cons_succ] at j0 j1 j2 j3 j4 j5
  clear hx
  by_cases hy1 : y1 = 1
  · have z : decide (y1 = 1) = true := decide_eq_true hy1
    have HY1 := hidG hy1
    rw [z]
    clear z hy1
    go_wp2_with fail
    refine (l2Whole_any B _ x2 y2 w1 (by have := HBW.out; have := HB0.out.size; have := HQ1.out.size; omega) ((HQD.out.below HB0.out).below HQ1.out)).mono ?_
    rintro e w2 ⟨rfl, hb2⟩
    have HQ2 := hidG (HQ1.out.trans (hb2.mono HQ1.out.size))
    have hx := HX.out w2 HQ2.out
    clear hb2 k0 k1 k2 k3 k4 k5 j0 j1 j2 j3 j4 j5
    have k0 := hx.a.cell 0
    have k1 := hx.a.cell 1
    have k2 := hx.a.cell 2
    have k3 := hx.a.cell 3
    have k4 := hx.a.cell 4
    have k5 := hx.a.cell 5
    simp only [List.getElem?_cons_zero, List.getElem?_cons_succ] at k0 k1 k2 k3 k4 k5
    have j0 := hx.b.cell 0
    have j1 := hx.b.cell 1
    have j2 := hx.b.cell 2
    have j3 := hx.b.cell 3
    have j4 := hx.b.cell 4
    have j5 := hx.b.cell 5
    simp only [List.getElem?_cons_zero, List.getElem?_cons_succ] at j0 j1 j2 j3 j4 j5
    clear hx
    by_cases hy2 : y2 = 1
    · have z : decide (y2 = 1) = true := decide_eq_true hy2
      have HE : Hid (ordI x1 x2 = ordI (x1 * y2) (x2 * y1)) := by show ordI x1 x2 = ordI (x1 * y2) (x2 * y1); rw [HY1.out, hy2, Int.mul_one, Int.mul_one]
      rw [z]
      clear z hy2
      go_wp2_with fail
      refine (HC.out w2 HQ2.out).mono ?_
      rintro e w3 ⟨rfl, hb3⟩
      have HB9 := hidG (HB0.out.trans ((HQ2.out.trans (hb3.mono HQ2.out.size)).mono HB0.out.size))
      clear hb3 k0 k1 k2 k3 k4 k5 j0 j1 j2 j3 j4 j5
      go_wp2
      go_ret
      exact ⟨ret_int HE.out, HB9.out⟩
    · have z : decide (y2 = 1) = false := decide_eq_false hy2
      rw [z]
      clear z hy2
      go_wp2_with fail
      go_region_held3 (fun W => W.cell? ⟨w.heap.size, 0, none⟩ = some (.int .i64 a0) ∧ W.cell? ⟨w.heap.size, 1, none⟩ = some (.bool an) ∧ W.cell? ⟨w.heap.size, 2, none⟩ = some (.slice aa al ac) ∧ W.cell? ⟨w.heap.size, 3, none⟩ = some (.int .i64 b0) ∧ W.cell? ⟨w.heap.size, 4, none⟩ = some (.bool bn) ∧ W.cell? ⟨w.heap.size, 5, none⟩ = some (.slice ba bl bc) ∧ W.cell? ⟨w.heap.size + 1, 0, none⟩ = some (.int .i64 d0) ∧ W.cell? ⟨w.heap.size + 1, 1, none⟩ = some (.bool dn) ∧ W.cell? ⟨w.heap.size + 1, 2, none⟩ = some (.slice da dl dc) ∧ W.cell? ⟨w.heap.size + 1, 3, none⟩ = some (.int .i64 e0) ∧ W.cell? ⟨w.heap.size + 1, 4, none⟩ = some (.bool en) ∧ W.cell? ⟨w.heap.size + 1, 5, none⟩ = some (.slice ea el ec)) (first | assumption | go_keep) (first
        | (go_at_call_of 52 (Value.int IntKind.i64 a0)
           refine (T1.out _ ?_).mono ?_
           · exact HQ2.out.drew
           rintro e wa ⟨u, rfl, hu, hba⟩
           have HU := hidG hu
           have HBA : Hid (Below W0.heap.size W0 wa) := HQ2.out.drew.trans (hba.mono HQ2.out.size)
           have hSa := (HX.out wa HBA.out).held
           clear hu hba)
        | (go_at_call_of 52 (Value.int IntKind.i64 d0)
           refine (T2.out _ ?_).mono ?_
           · exact HBA.out
           rintro e wb ⟨v, rfl, hv, hbb⟩
           have HV := hidG hv
           have HBB := hidG (HBA.out.trans (hbb.mono HBA.out.size))
           have HU2 := hidG (HU.out.below hbb)
           have hSb := (HX.out wb HBB.out).held
           clear hv hbb)
        | (go_at_call 53
           refine (l1CmpN_any 0 _ _ _ _ _ (Nat.zero_le _) HU2.out HV.out).mono ?_
           rintro e wc ⟨rfl, hbc⟩
           have hSc := (HX.out wc (HBB.out.trans (hbc.mono HBB.out.size))).held
           have HBC := hidG (HB0.out.trans ((HBB.out.trans (hbc.mono HBB.out.size)).mono HB0.out.size))
           clear hbc))
      all_goals
        go_wp2
        go_ret
        exact ⟨rfl, HBC.out⟩
  · have z : decide (y1 = 1) = false := decide_eq_false hy1
    rw [z]
    clear z hy1
    go_wp2_with fail
    go_region_held3 (fun W => W.cell? ⟨w.heap.size, 0, none⟩ = some (.int .i64 a0) ∧ W.cell? ⟨w.heap.size, 1, none⟩ = some (.bool an) ∧ W.cell? ⟨w.heap.size, 2, none⟩ = some (.slice aa al ac) ∧ W.cell? ⟨w.heap.size, 3, none⟩ = some (.int .i64 b0) ∧ W.cell? ⟨w.heap.size, 4, none⟩ = some (.bool bn) ∧ W.cell? ⟨w.heap.size, 5, none⟩ = some (.slice ba bl bc) ∧ W.cell? ⟨w.heap.size + 1, 0, none⟩ = some (.int .i64 d0) ∧ W.cell? ⟨w.heap.size + 1, 1, none⟩ = some (.bool dn) ∧ W.cell? ⟨w.heap.size + 1, 2, none⟩ = some (.slice da dl dc) ∧ W.cell? ⟨w.heap.size + 1, 3, none⟩ = some (.int .i64 e0) ∧ W.cell? ⟨w.heap.size + 1, 4, none⟩ = some (.bool en) ∧ W.cell? ⟨w.heap.size + 1, 5, none⟩ = some (.slice ea el ec)) (first | assumption | go_keep) (first
      | (go_at_call_of 52 (Value.int IntKind.i64 a0)
         refine (T1.out _ ?_).mono ?_
         · exact HQ1.out.drew
         rintro e wa ⟨u, rfl, hu, hba⟩
         have HU := hidG hu
         have HBA : Hid (Below W0.heap.size W0 wa) := HQ1.out.drew.trans (hba.mono HQ1.out.size)
         have hSa := (HX.out wa HBA.out).held
         clear hu hba)
      | (go_at_call_of 52 (Value.int IntKind.i64 d0)
         refine (T2.out _ ?_).mono ?_
         · exact HBA.out
         rintro e wb ⟨v, rfl, hv, hbb⟩
         have HV := hidG hv
         have HBB := hidG (HBA.out.trans (hbb.mono HBA.out.size))
         have HU2 := hidG (HU.out.below hbb)
         have hSb := (HX.out wb HBB.out).held
         clear hv hbb)
      | (go_at_call 53
         refine (l1CmpN_any 0 _ _ _ _ _ (Nat.zero_le _) HU2.out HV.out).mono ?_
         rintro e wc ⟨rfl, hbc⟩
         have hSc := (HX.out wc (HBB.out.trans (hbc.mono HBB.out.size))).held
         have HBC := hidG (HB0.out.trans ((HBB.out.trans (hbc.mono HBB.out.size)).mono HB0.out.size))
         clear hbc))
    all_goals
      go_wp2
      go_ret
      exact ⟨rfl, HBC.out⟩
end Go.Proofs.YtpjnglcojamfmaaGreatDoor
namespace Go.Proofs.YtpjnglcojamfmaaGreatDoor
open Go.ChangeShapes Go.WideShapes Go.ChangeAt Go.RowKit
/-- What both sides of RatCmp answer. -/
def IsResC (s t : ByteArray) (r : Int) : Prop := ∃ k m, IsCut s k ∧ IsCut t m ∧ ((∃ x1 y1 x2 y2, RatV s k x1 y1 ∧ RatV t m x2 y2 ∧ r = ordI (x1 * y2) (x2 * y1)) ∨ (¬ ((∃ x y, RatV s k x y) ∧ ∃ x y, RatV t m x y) ∧ r = -2))
theorem ratV_one {s : ByteArray} {k : Option Nat} {x y x' y' : Int} (h : RatV s k x y) (h' : RatV s k x' y') : x = x' ∧ y = y' := by
  cases k with
  | none => exact ⟨h.2.1.trans h'.2.1.symm, h.2.2.trans h'.2.2.symm⟩
  | some i => exact ⟨h.2.2.1.trans h'.2.2.1.symm, h.2.2.2.trans h'.2.2.2.symm⟩
theorem IsResC.eq {s t : ByteArray} {u v : Int} (h : IsResC s t u) (h' : IsResC s t v) : u = v := by
  obtain ⟨k, m, hk, hm, h⟩ := h
  obtain ⟨k', m', hk', hm', h'⟩ := h'
  obtain rfl := isCut_unique hk hk'
  obtain rfl := isCut_unique hm hm'
  rcases h with ⟨x1, y1, x2, y2, h1, h2, h3⟩ | ⟨h1, h2⟩ <;> rcases h' with ⟨x1', y1', x2', y2', h1', h2', h3'⟩ | ⟨h1', h2'⟩
  · obtain ⟨rfl, rfl⟩ := ratV_one h1 h1'
    obtain ⟨rfl, rfl⟩ := ratV_one h2 h2'
    rw [h3, h3']
  · exact absurd ⟨⟨_, _, h1⟩, _, _, h2⟩ h1'
  · exact absurd ⟨⟨_, _, h1'⟩, _, _, h2'⟩ h1
  · rw [h2, h2']
theorem resC_no {s t : ByteArray} {k m : Option Nat} {o o' : Bool} (hk : IsCut s k) (hm : IsCut t m) (h1 : o = true ↔ ∃ x y, RatV s k x y) (h2 : o' = true ↔ ∃ x y, RatV t m x y) (h : (o && o') = false) : IsResC s t (-2) := by
  refine ⟨k, m, hk, hm, .inr ⟨fun hh => ?_, rfl⟩⟩
  have e1 := h1.2 hh.1
  have e2 := h2.2 hh.2
  rw [e1, e2] at h
  cases h
theorem qn_zero {B : Nat} {w : World} {z : Value} {x y : Int} (h : IsQN B w z x y) : IsQN 0 w z x y := by
  obtain ⟨p0, pn, pa, pl, pc, q0, qn, qa, ql, qc, e, h1, h2⟩ := h
  exact ⟨p0, pn, pa, pl, pc, q0, qn, qa, ql, qc, e, h1.mono (Nat.zero_le _), h2.mono (Nat.zero_le _)⟩
set_option maxRecDepth 100000 in
set_option maxHeartbeats 2000000 in
theorem implRatCmp_any (s t : ByteArray) (w : World) (hs : s.size ≤ maxLen) (ht : t.size ≤ maxLen) (hSP : SP w) (hNS : NS w) (hLT : LT w) :
    Calls Tryz.prog 36 #[.string s, .string t] w fun e w' => ∃ r, e = .returned (.int .i64 r) ∧ IsResC s t r ∧ Below w.heap.size w w' := by
  obtain ⟨k, hk⟩ := isCut_ex s
  obtain ⟨m, hm⟩ := isCut_ex t
  have HK := hidG hk
  have HM := hidG hm
  have HSP := hidG hSP
  have HNS := hidG hNS
  have HLT := hidG hLT
  clear hk hm hSP hNS hLT
  go_enter Tryz.func36, Tryz.ntmps36
  go_wp2_with fail
  refine (readRationals_any s t k m _ hs ht HK.out HM.out HSP.out HNS.out HLT.out).mono ?_
  rintro e w1 ⟨z, z', o, o', rfl, hR1, hR2, hb1⟩
  have HB1 := hidG hb1
  have HR1 := hidG hR1
  have HR2 := hidG hR2
  obtain ⟨s1, p1, l1, c1, s2, p2, l2, c2, rfl⟩ := hR1.1
  obtain ⟨s3, p3, l3, c3, s4, p4, l4, c4, rfl⟩ := hR2.1
  obtain ⟨W2, hW2⟩ : ∃ W2, (w1.alloc (.cells #[.bool s1, .slice p1 l1 c1, .bool s2, .slice p2 l2 c2] 65)).alloc (.cells #[.bool s3, .slice p3 l3 c3, .bool s4, .slice p4 l4 c4] 65) = W2 := ⟨_, rfl⟩
  have HW2 := hidG hW2
  have hB2 : Below w1.heap.size w1 W2 := by rw [← hW2]; exact below_al (below_alloc _ _) _
  have HB12 := hidG hB2
  have HB2 : Hid (Below w.heap.size w W2) := HB1.out.trans (hB2.mono HB1.out.size)
  have hxa : Bx W2 w1.heap.size [.bool s1, .slice p1 l1 c1, .bool s2, .slice p2 l2 c2] := by rw [← hW2]; exact (bx_new w1 _ _).alloc _
  have hxb : Bx W2 (w1.heap.size + 1) [.bool s3, .slice p3 l3 c3, .bool s4, .slice p4 l4 c4] := by
    rw [← hW2]
    have h := bx_new (w1.alloc (.cells #[.bool s1, .slice p1 l1 c1, .bool s2, .slice p2 l2 c2] 65)) [.bool s3, .slice p3 l3 c3, .bool s4, .slice p4 l4 c4] 65
    rw [World.size_alloc] at h
    exact h
  have HX : Hid (∀ W, Below W2.heap.size W2 W → Bx W w1.heap.size [.bool s1, .slice p1 l1 c1, .bool s2, .slice p2 l2 c2] ∧ Bx W (w1.heap.size + 1) [.bool s3, .slice p3 l3 c3, .bool s4, .slice p4 l4 c4]) := fun W hW => ⟨hxa.below hxa.lt hW, hxb.below hxb.lt hW⟩
  have k0 := hxa.cell 0
  have k1 := hxa.cell 1
  have k2 := hxa.cell 2
  have k3 := hxa.cell 3
  simp only [List.getElem?_cons_zero, List.getElem?_cons_succ] at k0 k1 k2 k3
  have j0 := hxb.cell 0
  have j1 := hxb.cell 1
  have j2 := hxb.cell 2
  have j3 := hxb.cell 3
  simp only [List.getElem?_cons_zero, List.getElem?_cons_succ] at j0 j1 j2 j3
  clear hR1 hR2 hb1 hW2 hB2 hxa hxb
  go_upto_region 2 with fail
  rw [HW2.out]
  cases hoo : (o && o')
  · have HF : Hid (IsResC s t (-2)) := resC_no HK.out HM.out HR1.out.2.1 HR2.out.2.1 hoo
    clear hoo
    go_wp2
    go_ret
    exact ⟨_, rfl, HF.out, HB2.out⟩
  · have ho : o = true ∧ o' = true := by cases o <;> cases o' <;> simp_all
    obtain ⟨x1, y1, hV1, hQ1⟩ := HR1.out.2.2 ho.1
    obtain ⟨x2, y2, hV2, hQ2⟩ := HR2.out.2.2 ho.2
    have HQ1 := hidG (hQ1.below HB12.out)
    have HQ2 := hidG (hQ2.below HB12.out)
    have HF : Hid (IsResC s t (ordI (x1 * y2) (x2 * y1))) := ⟨k, m, HK.out, HM.out, .inl ⟨x1, y1, x2, y2, hV1, hV2, rfl⟩⟩
    clear hoo ho hV1 hV2 hQ1 hQ2
    go_wp2_with fail
    refine (compareQ_any w.heap.size _ _ x1 y1 x2 y2 300 W2 HB2.out.size HQ1.out HQ2.out (by omega) (HSP.out.below HB2.out)).mono ?_
    rintro e w3 ⟨rfl, hb3⟩
    have HB3 := hidG (HB2.out.trans (hb3.mono HB2.out.size))
    clear hb3 k0 k1 k2 k3 j0 j1 j2 j3
    go_wp2
    go_ret
    exact ⟨_, rfl, HF.out, HB3.out⟩
set_option maxRecDepth 100000 in
set_option maxHeartbeats 2000000 in
theorem specRatCmp_any (s t : ByteArray) (w : World) (hs : s.size ≤ maxLen) (ht : t.size ≤ maxLen) :
    Calls Tryz.prog 35 #[.string s, .string t] w fun e w' => ∃ r, e = .returned (.int .i64 r) ∧ IsResC s t r ∧ Below w.heap.size w w' := by
  go_enter Tryz.func35, Tryz.ntmps35
  go_wp2_with fail
  refine (specIsRat_any s _ hs).mono ?_
  rintro e w1 ⟨b, rfl, hR1, hb1⟩
  obtain ⟨k, hk, hi1⟩ := hR1
  obtain ⟨m, hm⟩ := isCut_ex t
  have HK := hidG hk
  have HM := hidG hm
  have HI1 := hidG hi1
  have HB1 := hidG hb1
  clear hk hm hi1 hb1
  cases b
  · have HF : Hid (IsResC s t (-2)) := ⟨k, m, HK.out, HM.out, .inr ⟨fun h => Bool.noConfusion (HI1.out.2 h.1), rfl⟩⟩
    go_wp2
    go_ret
    exact ⟨_, rfl, HF.out, HB1.out⟩
  · go_wp2_with fail
    refine (specIsRat_any t _ ht).mono ?_
    rintro e w2 ⟨b, rfl, hR2, hb2⟩
    obtain ⟨m', hm', hi2⟩ := hR2
    obtain rfl := isCut_unique hm' HM.out
    have HI2 := hidG hi2
    have HB2 := hidG (HB1.out.trans (hb2.mono HB1.out.size))
    clear hm' hi2 hb2
    cases b
    · have HF : Hid (IsResC s t (-2)) := ⟨k, _, HK.out, HM.out, .inr ⟨fun h => Bool.noConfusion (HI2.out.2 h.2), rfl⟩⟩
      go_wp2
      go_ret
      exact ⟨_, rfl, HF.out, HB2.out⟩
    · obtain ⟨x1, y1, hV1⟩ := HI1.out.1 (by first | exact rfl | trivial)
      obtain ⟨x2, y2, hV2⟩ := HI2.out.1 (by first | exact rfl | trivial)
      have HV1 := hidG hV1
      have HV2 := hidG hV2
      have HF : Hid (IsResC s t (ordI (x1 * y2) (x2 * y1))) := ⟨k, _, HK.out, HM.out, .inl ⟨x1, y1, x2, y2, hV1, hV2, rfl⟩⟩
      clear hV1 hV2
      go_wp2_with fail
      refine (l2Read_any s k x1 y1 _ hs HK.out HV1.out).mono ?_
      rintro e w3 ⟨z1, rfl, hz1, hb3⟩
      have HZ1 := hidG hz1
      have HB3 := hidG (HB2.out.trans (hb3.mono HB2.out.size))
      have HL3 : Hid (w2.heap.size ≤ w3.heap.size) := hb3.size
      clear hz1 hb3
      go_wp2_with fail
      refine (l2Read_any t _ x2 y2 _ ht HM.out HV2.out).mono ?_
      rintro e w4 ⟨z2, rfl, hz2, hb4⟩
      have HZ1' : Hid (IsQN 0 w4 z1 x1 y1) := qn_zero (HZ1.out.below hb4)
      have HZ2 : Hid (IsQN 0 w4 z2 x2 y2) := qn_zero hz2
      have HB4 := hidG (HB3.out.trans (hb4.mono HB3.out.size))
      clear hz2 hb4
      go_wp2_with fail
      refine (l2Cmp_any 0 z1 z2 x1 y1 x2 y2 _ (Nat.zero_le _) HZ1'.out HZ2.out).mono ?_
      rintro e w5 ⟨rfl, hb5⟩
      have HB5 := hidG (HB4.out.trans (hb5.mono HB4.out.size))
      clear hb5
      go_wp2
      go_ret
      exact ⟨_, rfl, HF.out, HB5.out⟩
end Go.Proofs.YtpjnglcojamfmaaGreatDoor
namespace Go.Proofs.YtpjnglcojamfmaaGreatDoor
open Go.ChangeShapes Go.WideShapes Go.ChangeAt Go.RowKit
structure BxT (h : Nat) (W : World) (a0 : Int) (an : Bool) (aa : Option Addr) (al ac : Nat) (b0 : Int) (bn : Bool) (ba : Option Addr) (bl bc : Nat) (d0 : Int) (dn : Bool) (da : Option Addr) (dl dc : Nat) (e0 : Int) (en : Bool) (ea : Option Addr) (el ec : Nat) : Prop where
  a : Bx W h [.int .i64 a0, .bool an, .slice aa al ac, .int .i64 b0, .bool bn, .slice ba bl bc]
  b : Bx W (h + 1) [.int .i64 d0, .bool dn, .slice da dl dc, .int .i64 e0, .bool en, .slice ea el ec]
  r : Bx W (h + 1 + 1) [.int .i64 0, .bool false, .slice none 0 0, .int .i64 0, .bool false, .slice none 0 0]
theorem BxT.below {h N : Nat} {W W' : World} {a0 : Int} {an : Bool} {aa : Option Addr} {al ac : Nat} {b0 : Int} {bn : Bool} {ba : Option Addr} {bl bc : Nat} {d0 : Int} {dn : Bool} {da : Option Addr} {dl dc : Nat} {e0 : Int} {en : Bool} {ea : Option Addr} {el ec : Nat} (m : BxT h W a0 an aa al ac b0 bn ba bl bc d0 dn da dl dc e0 en ea el ec) (hN : h + 3 ≤ N) (hb : Below N W W') : BxT h W' a0 an aa al ac b0 bn ba bl bc d0 dn da dl dc e0 en ea el ec :=
  ⟨m.a.below (by omega) hb, m.b.below (by omega) hb, m.r.below (by omega) hb⟩
theorem BxT.held {h : Nat} {W : World} {a0 : Int} {an : Bool} {aa : Option Addr} {al ac : Nat} {b0 : Int} {bn : Bool} {ba : Option Addr} {bl bc : Nat} {d0 : Int} {dn : Bool} {da : Option Addr} {dl dc : Nat} {e0 : Int} {en : Bool} {ea : Option Addr} {el ec : Nat} (m : BxT h W a0 an aa al ac b0 bn ba bl bc d0 dn da dl dc e0 en ea el ec) : W.cell? ⟨h, 0, none⟩ = some (.int .i64 a0) ∧ W.cell? ⟨h, 1, none⟩ = some (.bool an) ∧ W.cell? ⟨h, 2, none⟩ = some (.slice aa al ac) ∧ W.cell? ⟨h, 3, none⟩ = some (.int .i64 b0) ∧ W.cell? ⟨h, 4, none⟩ = some (.bool bn) ∧ W.cell? ⟨h, 5, none⟩ = some (.slice ba bl bc) ∧ W.cell? ⟨h + 1, 0, none⟩ = some (.int .i64 d0) ∧ W.cell? ⟨h + 1, 1, none⟩ = some (.bool dn) ∧ W.cell? ⟨h + 1, 2, none⟩ = some (.slice da dl dc) ∧ W.cell? ⟨h + 1, 3, none⟩ = some (.int .i64 e0) ∧ W.cell? ⟨h + 1, 4, none⟩ = some (.bool en) ∧ W.cell? ⟨h + 1, 5, none⟩ = some (.slice ea el ec) :=
  ⟨m.a.cell 0, m.a.cell 1, m.a.cell 2, m.a.cell 3, m.a.cell 4, m.a.cell 5, m.b.cell 0, m.b.cell 1, m.b.cell 2, m.b.cell 3, m.b.cell 4, m.b.cell 5⟩
theorem cell_far6 {W : World} {a : Addr} {v : Value} (g : Nat) (h : W.cell? a = some v) (hg : g ≠ a.block) (u0 u1 u2 u3 u4 u5 : Value) : ((((((W.setCell ⟨g, 0, none⟩ u0).setCell ⟨g, 1, none⟩ u1).setCell ⟨g, 2, none⟩ u2).setCell ⟨g, 3, none⟩ u3).setCell ⟨g, 4, none⟩ u4).setCell ⟨g, 5, none⟩ u5).cell? a = some v := by
  rw [World.cell?_setCell_far _ _ _ _ hg, World.cell?_setCell_far _ _ _ _ hg, World.cell?_setCell_far _ _ _ _ hg, World.cell?_setCell_far _ _ _ _ hg, World.cell?_setCell_far _ _ _ _ hg, World.cell?_setCell_far _ _ _ _ hg]
  exact h
theorem held_put6 {h : Nat} {W : World} {a0 : Int} {an : Bool} {aa : Option Addr} {al ac : Nat} {b0 : Int} {bn : Bool} {ba : Option Addr} {bl bc : Nat} {d0 : Int} {dn : Bool} {da : Option Addr} {dl dc : Nat} {e0 : Int} {en : Bool} {ea : Option Addr} {el ec : Nat} (m : W.cell? ⟨h, 0, none⟩ = some (.int .i64 a0) ∧ W.cell? ⟨h, 1, none⟩ = some (.bool an) ∧ W.cell? ⟨h, 2, none⟩ = some (.slice aa al ac) ∧ W.cell? ⟨h, 3, none⟩ = some (.int .i64 b0) ∧ W.cell? ⟨h, 4, none⟩ = some (.bool bn) ∧ W.cell? ⟨h, 5, none⟩ = some (.slice ba bl bc) ∧ W.cell? ⟨h + 1, 0, none⟩ = some (.int .i64 d0) ∧ W.cell? ⟨h + 1, 1, none⟩ = some (.bool dn) ∧ W.cell? ⟨h + 1, 2, none⟩ = some (.slice da dl dc) ∧ W.cell? ⟨h + 1, 3, none⟩ = some (.int .i64 e0) ∧ W.cell? ⟨h + 1, 4, none⟩ = some (.bool en) ∧ W.cell? ⟨h + 1, 5, none⟩ = some (.slice ea el ec)) (g : Nat) (h0 : g ≠ h) (h1 : g ≠ h + 1) (u0 u1 u2 u3 u4 u5 : Value) : ((((((W.setCell ⟨g, 0, none⟩ u0).setCell ⟨g, 1, none⟩ u1).setCell ⟨g, 2, none⟩ u2).setCell ⟨g, 3, none⟩ u3).setCell ⟨g, 4, none⟩ u4).setCell ⟨g, 5, none⟩ u5).cell? ⟨h, 0, none⟩ = some (.int .i64 a0) ∧ ((((((W.setCell ⟨g, 0, none⟩ u0).setCell ⟨g, 1, none⟩ u1).setCell ⟨g, 2, none⟩ u2).setCell ⟨g, 3, none⟩ u3).setCell ⟨g, 4, none⟩ u4).setCell ⟨g, 5, none⟩ u5).cell? ⟨h, 1, none⟩ = some (.bool an) ∧ ((((((W.setCell ⟨g, 0, none⟩ u0).setCell ⟨g, 1, none⟩ u1).setCell ⟨g, 2, none⟩ u2).setCell ⟨g, 3, none⟩ u3).setCell ⟨g, 4, none⟩ u4).setCell ⟨g, 5, none⟩ u5).cell? ⟨h, 2, none⟩ = some (.slice aa al ac) ∧ ((((((W.setCell ⟨g, 0, none⟩ u0).setCell ⟨g, 1, none⟩ u1).setCell ⟨g, 2, none⟩ u2).setCell ⟨g, 3, none⟩ u3).setCell ⟨g, 4, none⟩ u4).setCell ⟨g, 5, none⟩ u5).cell? ⟨h, 3, none⟩ = some (.int .i64 b0) ∧ ((((((W.setCell ⟨g, 0, none⟩ u0).setCell ⟨g, 1, none⟩ u1).setCell ⟨g, 2, none⟩ u2).setCell ⟨g, 3, none⟩ u3).setCell ⟨g, 4, none⟩ u4).setCell ⟨g, 5, none⟩ u5).cell? ⟨h, 4, none⟩ = some (.bool bn) ∧ ((((((W.setCell ⟨g, 0, none⟩ u0).setCell ⟨g, 1, none⟩ u1).setCell ⟨g, 2, none⟩ u2).setCell ⟨g, 3, none⟩ u3).setCell ⟨g, 4, none⟩ u4).setCell ⟨g, 5, none⟩ u5).cell? ⟨h, 5, none⟩ = some (.slice ba bl bc) ∧ ((((((W.setCell ⟨g, 0, none⟩ u0).setCell ⟨g, 1, none⟩ u1).setCell ⟨g, 2, none⟩ u2).setCell ⟨g, 3, none⟩ u3).setCell ⟨g, 4, none⟩ u4).setCell ⟨g, 5, none⟩ u5).cell? ⟨h + 1, 0, none⟩ = some (.int .i64 d0) ∧ ((((((W.setCell ⟨g, 0, none⟩ u0).setCell ⟨g, 1, none⟩ u1).setCell ⟨g, 2, none⟩ u2).setCell ⟨g, 3, none⟩ u3).setCell ⟨g, 4, none⟩ u4).setCell ⟨g, 5, none⟩ u5).cell? ⟨h + 1, 1, none⟩ = some (.bool dn) ∧ ((((((W.setCell ⟨g, 0, none⟩ u0).setCell ⟨g, 1, none⟩ u1).setCell ⟨g, 2, none⟩ u2).setCell ⟨g, 3, none⟩ u3).setCell ⟨g, 4, none⟩ u4).setCell ⟨g, 5, none⟩ u5).cell? ⟨h + 1, 2, none⟩ = some (.slice da dl dc) ∧ ((((((W.setCell ⟨g, 0, none⟩ u0).setCell ⟨g, 1, none⟩ u1).setCell ⟨g, 2, none⟩ u2).setCell ⟨g, 3, none⟩ u3).setCell ⟨g, 4, none⟩ u4).setCell ⟨g, 5, none⟩ u5).cell? ⟨h + 1, 3, none⟩ = some (.int .i64 e0) ∧ ((((((W.setCell ⟨g, 0, none⟩ u0).setCell ⟨g, 1, none⟩ u1).setCell ⟨g, 2, none⟩ u2).setCell ⟨g, 3, none⟩ u3).setCell ⟨g, 4, none⟩ u4).setCell ⟨g, 5, none⟩ u5).cell? ⟨h + 1, 4, none⟩ = some (.bool en) ∧ ((((((W.setCell ⟨g, 0, none⟩ u0).setCell ⟨g, 1, none⟩ u1).setCell ⟨g, 2, none⟩ u2).setCell ⟨g, 3, none⟩ u3).setCell ⟨g, 4, none⟩ u4).setCell ⟨g, 5, none⟩ u5).cell? ⟨h + 1, 5, none⟩ = some (.slice ea el ec) :=
  ⟨cell_far6 g m.1 h0 _ _ _ _ _ _, cell_far6 g m.2.1 h0 _ _ _ _ _ _, cell_far6 g m.2.2.1 h0 _ _ _ _ _ _, cell_far6 g m.2.2.2.1 h0 _ _ _ _ _ _, cell_far6 g m.2.2.2.2.1 h0 _ _ _ _ _ _, cell_far6 g m.2.2.2.2.2.1 h0 _ _ _ _ _ _, cell_far6 g m.2.2.2.2.2.2.1 h1 _ _ _ _ _ _, cell_far6 g m.2.2.2.2.2.2.2.1 h1 _ _ _ _ _ _, cell_far6 g m.2.2.2.2.2.2.2.2.1 h1 _ _ _ _ _ _, cell_far6 g m.2.2.2.2.2.2.2.2.2.1 h1 _ _ _ _ _ _, cell_far6 g m.2.2.2.2.2.2.2.2.2.2.1 h1 _ _ _ _ _ _, cell_far6 g m.2.2.2.2.2.2.2.2.2.2.2 h1 _ _ _ _ _ _⟩
theorem low_one (x y1 y2 : Int) (h1 : y1 = 1) (h2 : y2 = 1) : IsLow x (y1 * y2) x y1 := by
  refine ⟨1, by decide, by omega, by rw [h1, h2], by omega, ?_⟩
  rw [h1, h2]
  simp
theorem l1AddN_any (B : Nat) (za zb : Value) (x y : Int) (n m : Nat) (w : World) (hBw : B ≤ w.heap.size) (ha : NumZ B w za x n) (hb : NumZ B w zb y m) (hn : n ≤ 100000) (hm : m ≤ 100000) :
    Calls Tryz.prog 47 #[za, zb] w fun e w' => ∃ z, e = .returned z ∧ IsN 0 w' z (x + y) ∧ Below w.heap.size w w' := by
  obtain ⟨na, a, hza, rfl, hla⟩ := ha
  obtain ⟨nb, b, hzb, rfl, hlb⟩ := hb
  refine (l1Add_any B za zb na nb a b w hBw hza hzb (by omega) (by omega)).mono ?_
  rintro e w' ⟨z, rfl, hz, hb⟩
  exact ⟨z, rfl, hz.mono (Nat.zero_le _), hb⟩
set_option maxRecDepth 100000 in
set_option maxHeartbeats 8000000 in
theorem l2Mul_any (B : Nat) (za zd : Value) (x1 y1 x2 y2 : Int) (w : World) (hBw : B ≤ w.heap.size) (ha : IsQN B w za x1 y1) (hd : IsQN B w zd x2 y2) (hlt : x1.natAbs < lb 280 ∧ y1.natAbs < lb 280 ∧ x2.natAbs < lb 280 ∧ y2.natAbs < lb 280) (hden : y1 * y2 ≠ 0) :
    Calls Tryz.prog 64 #[za, zd] w fun e w' => ∃ z p q, e = .returned z ∧ IsQN 0 w' z p q ∧ IsLow (x1 * x2) (y1 * y2) p q ∧ Below w.heap.size w w' := by
  have HQA := hidG ha
  have HQD := hidG hd
  have HL := hidG hlt
  have HD := hidG hden
  obtain ⟨a0, an, aa, al, ac, b0, bn, ba, bl, bc, rfl, h1, h2⟩ := ha
  obtain ⟨d0, dn, da, dl, dc, e0, en, ea, el, ec, rfl, h3, h4⟩ := hd
  have H1 := hidG h1
  have H2 := hidG h2
  have H3 := hidG h3
  have H4 := hidG h4
  have HBW := hidG hBw
  clear h1 h2 h3 h4 hBw hlt hden
  obtain ⟨W0, hW0⟩ : ∃ W0, ((w.alloc (.cells #[.int .i64 a0, .bool an, .slice aa al ac, .int .i64 b0, .bool bn, .slice ba bl bc] 71)).alloc (.cells #[.int .i64 d0, .bool dn, .slice da dl dc, .int .i64 e0, .bool en, .slice ea el ec] 71)).alloc (.cells #[.int .i64 0, .bool false, .slice none 0 0, .int .i64 0, .bool false, .slice none 0 0] 71) = W0 := ⟨_, rfl⟩
  have HW0 := hidG hW0
  have HB0 : Hid (Below w.heap.size w W0) := by show Below w.heap.size w W0; rw [← hW0]; exact below_al (below_al (below_alloc _ _) _) _
  have hx0 : BxT w.heap.size W0 a0 an aa al ac b0 bn ba bl bc d0 dn da dl dc e0 en ea el ec := by
    refine ⟨?_, ?_, ?_⟩
    · rw [← hW0]; exact ((bx_new w _ _).alloc _).alloc _
    · rw [← hW0]
      have h := bx_new (w.alloc (.cells #[.int .i64 a0, .bool an, .slice aa al ac, .int .i64 b0, .bool bn, .slice ba bl bc] 71)) [.int .i64 d0, .bool dn, .slice da dl dc, .int .i64 e0, .bool en, .slice ea el ec] 71
      rw [World.size_alloc] at h
      exact h.alloc _
    · rw [← hW0]
      have h := bx_new ((w.alloc (.cells #[.int .i64 a0, .bool an, .slice aa al ac, .int .i64 b0, .bool bn, .slice ba bl bc] 71)).alloc (.cells #[.int .i64 d0, .bool dn, .slice da dl dc, .int .i64 e0, .bool en, .slice ea el ec] 71)) [.int .i64 0, .bool false, .slice none 0 0, .int .i64 0, .bool false, .slice none 0 0] 71
      rw [World.size_alloc, World.size_alloc] at h
      exact h
  have HX : Hid (∀ W, Below W0.heap.size W0 W → BxT w.heap.size W a0 an aa al ac b0 bn ba bl bc d0 dn da dl dc e0 en ea el ec) := fun W hW => hx0.below hx0.r.lt hW
  have T1 : Hid (∀ W, Below W0.heap.size W0 W → Calls Tryz.prog 52 #[.agg #[.int .i64 a0, .bool an, .slice aa al ac], .agg #[.int .i64 d0, .bool dn, .slice da dl dc]] W (fun e w' => ∃ z, e = .returned z ∧ NumZ 0 w' z (x1 * x2) 560 ∧ Below W.heap.size W w')) := fun W hW => by
    refine (l1MulN_any B _ _ _ _ 1000 1000 W (by have := HBW.out; have := HB0.out.size; have := hW.size; omega) ((H1.out.below HB0.out).below hW) ((H3.out.below HB0.out).below hW) (by omega) (by omega)).mono ?_
    rintro e w' ⟨z, rfl, hz, hb⟩
    exact ⟨z, rfl, numZ_lt hz (mul_lt HL.out.1 HL.out.2.2.1), hb⟩
  have T2 : Hid (∀ W, Below W0.heap.size W0 W → Calls Tryz.prog 52 #[.agg #[.int .i64 b0, .bool bn, .slice ba bl bc], .agg #[.int .i64 e0, .bool en, .slice ea el ec]] W (fun e w' => ∃ z, e = .returned z ∧ NumZ 0 w' z (y1 * y2) 560 ∧ Below W.heap.size W w')) := fun W hW => by
    refine (l1MulN_any B _ _ _ _ 1000 1000 W (by have := HBW.out; have := HB0.out.size; have := hW.size; omega) ((H2.out.below HB0.out).below hW) ((H4.out.below HB0.out).below hW) (by omega) (by omega)).mono ?_
    rintro e w' ⟨z, rfl, hz, hb⟩
    exact ⟨z, rfl, numZ_lt hz (mul_lt HL.out.2.1 HL.out.2.2.2), hb⟩
  have TW : Hid (∀ W, Below W0.heap.size W0 W → Calls Tryz.prog 52 #[.agg #[.int .i64 a0, .bool an, .slice aa al ac], .agg #[.int .i64 d0, .bool dn, .slice da dl dc]] W (fun e w' => ∃ z, e = .returned z ∧ NumZ 0 w' z (x1 * x2) 560 ∧ Below W.heap.size W w')) := fun W hW => by
    refine (l1MulN_any B _ _ _ _ 1000 1000 W (by have := HBW.out; have := HB0.out.size; have := hW.size; omega) ((H1.out.below HB0.out).below hW) ((H3.out.below HB0.out).below hW) (by omega) (by omega)).mono ?_
    rintro e w' ⟨z, rfl, hz, hb⟩
    exact ⟨z, rfl, numZ_lt hz (mul_lt HL.out.1 HL.out.2.2.1), hb⟩
  have k0 := hx0.a.cell 0
  have k1 := hx0.a.cell 1
  have k2 := hx0.a.cell 2
  have k3 := hx0.a.cell 3
  have k4 := hx0.a.cell 4
  have k5 := hx0.a.cell 5
  simp only [List.getElem?_cons_zero, List.getElem?_cons_succ] at k0 k1 k2 k3 k4 k5
  have j0 := hx0.b.cell 0
  have j1 := hx0.b.cell 1
  have j2 := hx0.b.cell 2
  have j3 := hx0.b.cell 3
  have j4 := hx0.b.cell 4
  have j5 := hx0.b.cell 5
  simp only [List.getElem?_cons_zero, List.getElem?_cons_succ] at j0 j1 j2 j3 j4 j5
  clear hW0 hx0
  go_enter Tryz.func64, Tryz.ntmps64
  go_upto_region 1 with fail
  rw [HW0.out]
  go_wp2_with fail
  refine (l2Whole_any B _ x1 y1 W0 (by have := HBW.out; have := HB0.out.size; omega) (HQA.out.below HB0.out)).mono ?_
  rintro e w1 ⟨rfl, hb1⟩
  have HQ1 := hidG hb1
  have hx := HX.out w1 hb1
  clear hb1 k0 k1 k2 k3 k4 k5 j0 j1 j2 j3 j4 j5
  have k0 := hx.a.cell 0
  have k1 := hx.a.cell 1
  have k2 := hx.a.cell 2
  have k3 := hx.a.cell 3
  have k4 := hx.a.cell 4
  have k5 := hx.a.cell 5
  simp only [List.getElem?_cons_zero, List.getElem?_cons_succ] at k0 k1 k2 k3 k4 k5
  have j0 := hx.b.cell 0
  have j1 := hx.b.cell 1
  have j2 := hx.b.cell 2
  have j3 := hx.b.cell 3
  have j4 := hx.b.cell 4
  have j5 := hx.b.cell 5
  simp only [List.getElem?_cons_zero, List.getElem?_cons_succ] at j0 j1 j2 j3 j4 j5
  clear hx
  by_cases hy1 : y1 = 1
  · have z : decide (y1 = 1) = true := decide_eq_true hy1
    have HY1 := hidG hy1
    rw [z]
    clear z hy1
    go_wp2_with fail
    refine (l2Whole_any B _ x2 y2 w1 (by have := HBW.out; have := HB0.out.size; have := HQ1.out.size; omega) ((HQD.out.below HB0.out).below HQ1.out)).mono ?_
    rintro e w2 ⟨rfl, hb2⟩
    have HQ2 := hidG (HQ1.out.trans (hb2.mono HQ1.out.size))
    have hx := HX.out w2 HQ2.out
    clear hb2 k0 k1 k2 k3 k4 k5 j0 j1 j2 j3 j4 j5
    have k0 := hx.a.cell 0
    have k1 := hx.a.cell 1
    have k2 := hx.a.cell 2
    have k3 := hx.a.cell 3
    have k4 := hx.a.cell 4
    have k5 := hx.a.cell 5
    simp only [List.getElem?_cons_zero, List.getElem?_cons_succ] at k0 k1 k2 k3 k4 k5
    have j0 := hx.b.cell 0
    have j1 := hx.b.cell 1
    have j2 := hx.b.cell 2
    have j3 := hx.b.cell 3
    have j4 := hx.b.cell 4
    have j5 := hx.b.cell 5
    simp only [List.getElem?_cons_zero, List.getElem?_cons_succ] at j0 j1 j2 j3 j4 j5
    clear hx
    by_cases hy2 : y2 = 1
    · have z : decide (y2 = 1) = true := decide_eq_true hy2
      have HLO : Hid (IsLow (x1 * x2) (y1 * y2) (x1 * x2) y1) := by
        show IsLow (x1 * x2) (y1 * y2) (x1 * x2) y1
        exact low_one _ _ _ HY1.out hy2
      rw [z]
      clear z hy2
      go_wp2_with fail
      go_region_held3 (fun W => W.cell? ⟨w.heap.size, 0, none⟩ = some (.int .i64 a0) ∧ W.cell? ⟨w.heap.size, 1, none⟩ = some (.bool an) ∧ W.cell? ⟨w.heap.size, 2, none⟩ = some (.slice aa al ac) ∧ W.cell? ⟨w.heap.size, 3, none⟩ = some (.int .i64 b0) ∧ W.cell? ⟨w.heap.size, 4, none⟩ = some (.bool bn) ∧ W.cell? ⟨w.heap.size, 5, none⟩ = some (.slice ba bl bc) ∧ W.cell? ⟨w.heap.size + 1, 0, none⟩ = some (.int .i64 d0) ∧ W.cell? ⟨w.heap.size + 1, 1, none⟩ = some (.bool dn) ∧ W.cell? ⟨w.heap.size + 1, 2, none⟩ = some (.slice da dl dc) ∧ W.cell? ⟨w.heap.size + 1, 3, none⟩ = some (.int .i64 e0) ∧ W.cell? ⟨w.heap.size + 1, 4, none⟩ = some (.bool en) ∧ W.cell? ⟨w.heap.size + 1, 5, none⟩ = some (.slice ea el ec)) (first | with_reducible assumption | with_reducible exact held_put6 (by with_reducible assumption) (w.heap.size + 1 + 1) (by omega) (by omega) _ _ _ _ _ _ | go_keep) (first
        | (go_at_call 52
           refine (TW.out _ ?_).mono ?_
           · exact HQ2.out.drew
           rintro e wm ⟨u, rfl, hu, hb⟩
           obtain ⟨g0, gn, ga, gl, gc, rfl⟩ := hu.isN.shape
           have HG := hidG (numZ_le hu (n := 1000) (by omega))
           have HTM : Hid (Below W0.heap.size W0 wm) := HQ2.out.drew.trans (hb.mono HQ2.out.size)
           have hxa := HX.out wm HTM.out
           have hSm := hxa.held
           have r0 := hxa.r.cell 0
           have r1 := hxa.r.cell 1
           have r2 := hxa.r.cell 2
           have r3 := hxa.r.cell 3
           have r4 := hxa.r.cell 4
           have r5 := hxa.r.cell 5
           simp only [List.getElem?_cons_zero, List.getElem?_cons_succ] at r0 r1 r2 r3 r4 r5
           have f0 := hxa.r.frozen 0
           have f1 := hxa.r.frozen 1
           have f2 := hxa.r.frozen 2
           have f3 := hxa.r.frozen 3
           have f4 := hxa.r.frozen 4
           have f5 := hxa.r.frozen 5
           clear hu hb hxa))
      all_goals
        try simp only [List.getElem_toArray, List.getElem_cons_succ, List.getElem_cons_zero, Act.put, List.setIfInBounds_toArray, List.set_cons_succ, List.set_cons_zero]
        go_wp2
        have hbw := (HX.out wm HTM.out).r
        have hnR : NoInt wm (w.heap.size + 1 + 1) := noInt_of hbw (by simp)
        have hk := keeps6 wm (w.heap.size + 1 + 1) (.int .i64 g0) (.bool gn) (.slice ga gl gc) (.int .i64 b0) (.bool bn) (.slice ba bl bc)
        have hP9 := (HG.out).keeps hnR hnR hk
        have hQ9 := (((H2.out.below HB0.out).below HTM.out).mono (Nat.zero_le _)).keeps hnR hnR hk
        have hB9 := set6 (HB0.out.trans (HTM.out.mono HB0.out.size)) (w.heap.size + 1 + 1) (by omega) (.int .i64 g0) (.bool gn) (.slice ga gl gc) (.int .i64 b0) (.bool bn) (.slice ba bl bc)
        have hZ := hbw.put6 (.int .i64 g0) (.bool gn) (.slice ga gl gc) (.int .i64 b0) (.bool bn) (.slice ba bl bc)
        have hWW : ((((((wm.setCell ⟨w.heap.size + 1 + 1, 0, none⟩ (.int .i64 g0)).setCell ⟨w.heap.size + 1 + 1, 1, none⟩ (.bool gn)).setCell ⟨w.heap.size + 1 + 1, 2, none⟩ (.slice ga gl gc)).setCell ⟨w.heap.size + 1 + 1, 3, none⟩ (.int .i64 b0)).setCell ⟨w.heap.size + 1 + 1, 4, none⟩ (.bool bn)).setCell ⟨w.heap.size + 1 + 1, 5, none⟩ (.slice ba bl bc)) = W6 wm (w.heap.size + 1 + 1) (.int .i64 g0) (.bool gn) (.slice ga gl gc) (.int .i64 b0) (.bool bn) (.slice ba bl bc) := rfl
        rw [hWW]
        generalize W6 wm (w.heap.size + 1 + 1) (.int .i64 g0) (.bool gn) (.slice ga gl gc) (.int .i64 b0) (.bool bn) (.slice ba bl bc) = W9 at *
        have o0 := hZ.cell 0
        have o1 := hZ.cell 1
        have o2 := hZ.cell 2
        have o3 := hZ.cell 3
        have o4 := hZ.cell 4
        have o5 := hZ.cell 5
        simp only [List.getElem?_cons_zero, List.getElem?_cons_succ] at o0 o1 o2 o3 o4 o5
        refine bodyPost_ret (v := .agg #[.int .i64 g0, .bool gn, .slice ga gl gc, .int .i64 b0, .bool bn, .slice ba bl bc]) ?_ rfl ⟨_, _, _, rfl, ⟨g0, gn, ga, gl, gc, b0, bn, ba, bl, bc, rfl, hP9, hQ9⟩, HLO.out, hB9⟩
        simp [results, Tryz.results64, go_sem, o0, o1, o2, o3, o4, o5]
    · have z : decide (y2 = 1) = false := decide_eq_false hy2
      rw [z]
      clear z hy2
      go_wp2_with fail
      go_region_held3 (fun W => W.cell? ⟨w.heap.size, 0, none⟩ = some (.int .i64 a0) ∧ W.cell? ⟨w.heap.size, 1, none⟩ = some (.bool an) ∧ W.cell? ⟨w.heap.size, 2, none⟩ = some (.slice aa al ac) ∧ W.cell? ⟨w.heap.size, 3, none⟩ = some (.int .i64 b0) ∧ W.cell? ⟨w.heap.size, 4, none⟩ = some (.bool bn) ∧ W.cell? ⟨w.heap.size, 5, none⟩ = some (.slice ba bl bc) ∧ W.cell? ⟨w.heap.size + 1, 0, none⟩ = some (.int .i64 d0) ∧ W.cell? ⟨w.heap.size + 1, 1, none⟩ = some (.bool dn) ∧ W.cell? ⟨w.heap.size + 1, 2, none⟩ = some (.slice da dl dc) ∧ W.cell? ⟨w.heap.size + 1, 3, none⟩ = some (.int .i64 e0) ∧ W.cell? ⟨w.heap.size + 1, 4, none⟩ = some (.bool en) ∧ W.cell? ⟨w.heap.size + 1, 5, none⟩ = some (.slice ea el ec)) (first | with_reducible assumption | with_reducible exact held_put6 (by with_reducible assumption) (w.heap.size + 1 + 1) (by omega) (by omega) _ _ _ _ _ _ | go_keep) (first
        | (go_at_call_of 52 (Value.int IntKind.i64 a0)
           refine (T1.out _ ?_).mono ?_
           · exact HQ2.out.drew
           rintro e wt1 ⟨u1, rfl, hu, hb⟩
           have HU1 := hidG hu
           have HT1 : Hid (Below W0.heap.size W0 wt1) := HQ2.out.drew.trans (hb.mono HQ2.out.size)
           have hS0 := (HX.out wt1 HT1.out).held
           clear hu hb)
        | (go_at_call_of 52 (Value.int IntKind.i64 b0)
           refine (T2.out _ ?_).mono ?_
           · exact HT1.out
           rintro e wt2 ⟨u2, rfl, hu, hb⟩
           have HU2 := hidG hu
           have HT2 : Hid (Below W0.heap.size W0 wt2) := HT1.out.trans (hb.mono HT1.out.size)
           have HV1 := hidG (HU1.out.below hb)
           have hS1 := (HX.out wt2 HT2.out).held
           clear hu hb)
        | (go_at_call 69
           refine (l2Make_any 0 _ _ (x1 * x2) (y1 * y2) _ (Nat.zero_le _) (numZ_le HV1.out (by omega)) (numZ_le HU2.out (by omega)) HD.out).mono ?_
           rintro e wm ⟨zr, p, q, rfl, hr, hlow, hb⟩
           have HLOW := hidG hlow
           have HTM : Hid (Below W0.heap.size W0 wm) := HT2.out.trans (hb.mono HT2.out.size)
           obtain ⟨g0, gn, ga, gl, gc, h0, hn, hA, hl, hc, rfl, hg, hh⟩ := hr
           have HG := hidG hg
           have HH := hidG hh
           have hxa := HX.out wm HTM.out
           have hSm := hxa.held
           have r0 := hxa.r.cell 0
           have r1 := hxa.r.cell 1
           have r2 := hxa.r.cell 2
           have r3 := hxa.r.cell 3
           have r4 := hxa.r.cell 4
           have r5 := hxa.r.cell 5
           simp only [List.getElem?_cons_zero, List.getElem?_cons_succ] at r0 r1 r2 r3 r4 r5
           have f0 := hxa.r.frozen 0
           have f1 := hxa.r.frozen 1
           have f2 := hxa.r.frozen 2
           have f3 := hxa.r.frozen 3
           have f4 := hxa.r.frozen 4
           have f5 := hxa.r.frozen 5
           clear hg hh hlow hb hxa))
      all_goals
        try simp only [List.getElem_toArray, List.getElem_cons_succ, List.getElem_cons_zero, Act.put, List.setIfInBounds_toArray, List.set_cons_succ, List.set_cons_zero]
        go_wp2
        have hbw := (HX.out wm HTM.out).r
        have hnR : NoInt wm (w.heap.size + 1 + 1) := noInt_of hbw (by simp)
        have hk := keeps6 wm (w.heap.size + 1 + 1) (.int .i64 g0) (.bool gn) (.slice ga gl gc) (.int .i64 h0) (.bool hn) (.slice hA hl hc)
        have hP9 := (HG.out).keeps hnR hnR hk
        have hQ9 := (HH.out).keeps hnR hnR hk
        have hB9 := set6 (HB0.out.trans (HTM.out.mono HB0.out.size)) (w.heap.size + 1 + 1) (by omega) (.int .i64 g0) (.bool gn) (.slice ga gl gc) (.int .i64 h0) (.bool hn) (.slice hA hl hc)
        have hZ := hbw.put6 (.int .i64 g0) (.bool gn) (.slice ga gl gc) (.int .i64 h0) (.bool hn) (.slice hA hl hc)
        have hWW : ((((((wm.setCell ⟨w.heap.size + 1 + 1, 0, none⟩ (.int .i64 g0)).setCell ⟨w.heap.size + 1 + 1, 1, none⟩ (.bool gn)).setCell ⟨w.heap.size + 1 + 1, 2, none⟩ (.slice ga gl gc)).setCell ⟨w.heap.size + 1 + 1, 3, none⟩ (.int .i64 h0)).setCell ⟨w.heap.size + 1 + 1, 4, none⟩ (.bool hn)).setCell ⟨w.heap.size + 1 + 1, 5, none⟩ (.slice hA hl hc)) = W6 wm (w.heap.size + 1 + 1) (.int .i64 g0) (.bool gn) (.slice ga gl gc) (.int .i64 h0) (.bool hn) (.slice hA hl hc) := rfl
        rw [hWW]
        generalize W6 wm (w.heap.size + 1 + 1) (.int .i64 g0) (.bool gn) (.slice ga gl gc) (.int .i64 h0) (.bool hn) (.slice hA hl hc) = W9 at *
        have o0 := hZ.cell 0
        have o1 := hZ.cell 1
        have o2 := hZ.cell 2
        have o3 := hZ.cell 3
        have o4 := hZ.cell 4
        have o5 := hZ.cell 5
        simp only [List.getElem?_cons_zero, List.getElem?_cons_succ] at o0 o1 o2 o3 o4 o5
        refine bodyPost_ret (v := .agg #[.int .i64 g0, .bool gn, .slice ga gl gc, .int .i64 h0, .bool hn, .slice hA hl hc]) ?_ rfl ⟨_, p, q, rfl, ⟨g0, gn, ga, gl, gc, h0, hn, hA, hl, hc, rfl, hP9, hQ9⟩, HLOW.out, hB9⟩
        simp [results, Tryz.results64, go_sem, o0, o1, o2, o3, o4, o5]
  · have z : decide (y1 = 1) = false := decide_eq_false hy1
    rw [z]
    clear z hy1
    go_wp2_with fail
    go_region_held3 (fun W => W.cell? ⟨w.heap.size, 0, none⟩ = some (.int .i64 a0) ∧ W.cell? ⟨w.heap.size, 1, none⟩ = some (.bool an) ∧ W.cell? ⟨w.heap.size, 2, none⟩ = some (.slice aa al ac) ∧ W.cell? ⟨w.heap.size, 3, none⟩ = some (.int .i64 b0) ∧ W.cell? ⟨w.heap.size, 4, none⟩ = some (.bool bn) ∧ W.cell? ⟨w.heap.size, 5, none⟩ = some (.slice ba bl bc) ∧ W.cell? ⟨w.heap.size + 1, 0, none⟩ = some (.int .i64 d0) ∧ W.cell? ⟨w.heap.size + 1, 1, none⟩ = some (.bool dn) ∧ W.cell? ⟨w.heap.size + 1, 2, none⟩ = some (.slice da dl dc) ∧ W.cell? ⟨w.heap.size + 1, 3, none⟩ = some (.int .i64 e0) ∧ W.cell? ⟨w.heap.size + 1, 4, none⟩ = some (.bool en) ∧ W.cell? ⟨w.heap.size + 1, 5, none⟩ = some (.slice ea el ec)) (first | with_reducible assumption | with_reducible exact held_put6 (by with_reducible assumption) (w.heap.size + 1 + 1) (by omega) (by omega) _ _ _ _ _ _ | go_keep) (first
      | (go_at_call_of 52 (Value.int IntKind.i64 a0)
         refine (T1.out _ ?_).mono ?_
         · exact HQ1.out.drew
         rintro e wt1 ⟨u1, rfl, hu, hb⟩
         have HU1 := hidG hu
         have HT1 : Hid (Below W0.heap.size W0 wt1) := HQ1.out.drew.trans (hb.mono HQ1.out.size)
         have hS0 := (HX.out wt1 HT1.out).held
         clear hu hb)
      | (go_at_call_of 52 (Value.int IntKind.i64 b0)
         refine (T2.out _ ?_).mono ?_
         · exact HT1.out
         rintro e wt2 ⟨u2, rfl, hu, hb⟩
         have HU2 := hidG hu
         have HT2 : Hid (Below W0.heap.size W0 wt2) := HT1.out.trans (hb.mono HT1.out.size)
         have HV1 := hidG (HU1.out.below hb)
         have hS1 := (HX.out wt2 HT2.out).held
         clear hu hb)
      | (go_at_call 69
         refine (l2Make_any 0 _ _ (x1 * x2) (y1 * y2) _ (Nat.zero_le _) (numZ_le HV1.out (by omega)) (numZ_le HU2.out (by omega)) HD.out).mono ?_
         rintro e wm ⟨zr, p, q, rfl, hr, hlow, hb⟩
         have HLOW := hidG hlow
         have HTM : Hid (Below W0.heap.size W0 wm) := HT2.out.trans (hb.mono HT2.out.size)
         obtain ⟨g0, gn, ga, gl, gc, h0, hn, hA, hl, hc, rfl, hg, hh⟩ := hr
         have HG := hidG hg
         have HH := hidG hh
         have hxa := HX.out wm HTM.out
         have hSm := hxa.held
         have r0 := hxa.r.cell 0
         have r1 := hxa.r.cell 1
         have r2 := hxa.r.cell 2
         have r3 := hxa.r.cell 3
         have r4 := hxa.r.cell 4
         have r5 := hxa.r.cell 5
         simp only [List.getElem?_cons_zero, List.getElem?_cons_succ] at r0 r1 r2 r3 r4 r5
         have f0 := hxa.r.frozen 0
         have f1 := hxa.r.frozen 1
         have f2 := hxa.r.frozen 2
         have f3 := hxa.r.frozen 3
         have f4 := hxa.r.frozen 4
         have f5 := hxa.r.frozen 5
         clear hg hh hlow hb hxa))
    all_goals
      try simp only [List.getElem_toArray, List.getElem_cons_succ, List.getElem_cons_zero, Act.put, List.setIfInBounds_toArray, List.set_cons_succ, List.set_cons_zero]
      go_wp2
      have hbw := (HX.out wm HTM.out).r
      have hnR : NoInt wm (w.heap.size + 1 + 1) := noInt_of hbw (by simp)
      have hk := keeps6 wm (w.heap.size + 1 + 1) (.int .i64 g0) (.bool gn) (.slice ga gl gc) (.int .i64 h0) (.bool hn) (.slice hA hl hc)
      have hP9 := (HG.out).keeps hnR hnR hk
      have hQ9 := (HH.out).keeps hnR hnR hk
      have hB9 := set6 (HB0.out.trans (HTM.out.mono HB0.out.size)) (w.heap.size + 1 + 1) (by omega) (.int .i64 g0) (.bool gn) (.slice ga gl gc) (.int .i64 h0) (.bool hn) (.slice hA hl hc)
      have hZ := hbw.put6 (.int .i64 g0) (.bool gn) (.slice ga gl gc) (.int .i64 h0) (.bool hn) (.slice hA hl hc)
      have hWW : ((((((wm.setCell ⟨w.heap.size + 1 + 1, 0, none⟩ (.int .i64 g0)).setCell ⟨w.heap.size + 1 + 1, 1, none⟩ (.bool gn)).setCell ⟨w.heap.size + 1 + 1, 2, none⟩ (.slice ga gl gc)).setCell ⟨w.heap.size + 1 + 1, 3, none⟩ (.int .i64 h0)).setCell ⟨w.heap.size + 1 + 1, 4, none⟩ (.bool hn)).setCell ⟨w.heap.size + 1 + 1, 5, none⟩ (.slice hA hl hc)) = W6 wm (w.heap.size + 1 + 1) (.int .i64 g0) (.bool gn) (.slice ga gl gc) (.int .i64 h0) (.bool hn) (.slice hA hl hc) := rfl
      rw [hWW]
      generalize W6 wm (w.heap.size + 1 + 1) (.int .i64 g0) (.bool gn) (.slice ga gl gc) (.int .i64 h0) (.bool hn) (.slice hA hl hc) = W9 at *
      have o0 := hZ.cell 0
      have o1 := hZ.cell 1
      have o2 := hZ.cell 2
      have o3 := hZ.cell 3
      have o4 := hZ.cell 4
      have o5 := hZ.cell 5
      simp only [List.getElem?_cons_zero, List.getElem?_cons_succ] at o0 o1 o2 o3 o4 o5
      refine bodyPost_ret (v := .agg #[.int .i64 g0, .bool gn, .slice ga gl gc, .int .i64 h0, .bool hn, .slice hA hl hc]) ?_ rfl ⟨_, p, q, rfl, ⟨g0, gn, ga, gl, gc, h0, hn, hA, hl, hc, rfl, hP9, hQ9⟩, HLOW.out, hB9⟩
      simp [results, Tryz.results64, go_sem, o0, o1, o2, o3, o4, o5]
end Go.Proofs.YtpjnglcojamfmaaGreatDoor
namespace Go.Proofs.YtpjnglcojamfmaaGreatDoor
open Go.ChangeShapes Go.WideShapes Go.ChangeAt Go.RowKit
/-- What both sides of RatMul, RatAdd and RatDiv answer: of two numbers N over D, in lowest terms. -/
def IsResQ (N D : Int → Int → Int → Int → Int) (ok : Int → Prop) (s t u : ByteArray) : Prop := ∃ k m, IsCut s k ∧ IsCut t m ∧ ((∃ x1 y1 x2 y2 p q, RatV s k x1 y1 ∧ RatV t m x2 y2 ∧ ok x2 ∧ IsLow (N x1 y1 x2 y2) (D x1 y1 x2 y2) p q ∧ TextR p q u) ∨ (¬ (∃ x1 y1 x2 y2, RatV s k x1 y1 ∧ RatV t m x2 y2 ∧ ok x2) ∧ u = ⟨#[]⟩))
theorem IsResQ.eq {N D : Int → Int → Int → Int → Int} {ok : Int → Prop} {s t u v : ByteArray} (h : IsResQ N D ok s t u) (h' : IsResQ N D ok s t v) : u = v := by
  obtain ⟨k, m, hk, hm, h⟩ := h
  obtain ⟨k', m', hk', hm', h'⟩ := h'
  obtain rfl := isCut_unique hk hk'
  obtain rfl := isCut_unique hm hm'
  rcases h with ⟨x1, y1, x2, y2, p, q, h1, h2, h3, h4, h5⟩ | ⟨h1, h2⟩ <;> rcases h' with ⟨x1', y1', x2', y2', p', q', h1', h2', h3', h4', h5'⟩ | ⟨h1', h2'⟩
  · obtain ⟨rfl, rfl⟩ := ratV_one h1 h1'
    obtain ⟨rfl, rfl⟩ := ratV_one h2 h2'
    obtain ⟨rfl, rfl⟩ := isLow_unique h4 h4'
    exact h5.eq h5'
  · exact absurd ⟨_, _, _, _, h1, h2, h3⟩ h1'
  · exact absurd ⟨_, _, _, _, h1', h2', h3'⟩ h1
  · rw [h2, h2']
theorem resQ_no {N D : Int → Int → Int → Int → Int} {ok : Int → Prop} {s t : ByteArray} {k m : Option Nat} {o o' : Bool} (hk : IsCut s k) (hm : IsCut t m) (h1 : o = true ↔ ∃ x y, RatV s k x y) (h2 : o' = true ↔ ∃ x y, RatV t m x y) (h : (o && o') = false) : IsResQ N D ok s t ⟨#[]⟩ := by
  refine ⟨k, m, hk, hm, .inr ⟨fun hh => ?_, rfl⟩⟩
  obtain ⟨_, _, _, _, g1, g2, _⟩ := hh
  have e1 := h1.2 ⟨_, _, g1⟩
  have e2 := h2.2 ⟨_, _, g2⟩
  rw [e1, e2] at h
  cases h
abbrev RatMulRes : ByteArray → ByteArray → ByteArray → Prop := IsResQ (fun x1 _ x2 _ => x1 * x2) (fun _ y1 _ y2 => y1 * y2) (fun _ => True)
set_option maxRecDepth 100000 in
set_option maxHeartbeats 2000000 in
theorem implRatMul_any (s t : ByteArray) (w : World) (hs : s.size ≤ maxLen) (ht : t.size ≤ maxLen) (hSP : SP w) (hNS : NS w) (hLT : LT w) :
    Calls Tryz.prog 26 #[.string s, .string t] w fun e w' => ∃ u, e = .returned (.string u) ∧ RatMulRes s t u ∧ Below w.heap.size w w' := by
  obtain ⟨k, hk⟩ := isCut_ex s
  obtain ⟨m, hm⟩ := isCut_ex t
  have HK := hidG hk
  have HM := hidG hm
  have HSP := hidG hSP
  have HNS := hidG hNS
  have HLT := hidG hLT
  clear hk hm hSP hNS hLT
  go_enter Tryz.func26, Tryz.ntmps26
  go_wp2_with fail
  refine (readRationals_any s t k m _ hs ht HK.out HM.out HSP.out HNS.out HLT.out).mono ?_
  rintro e w1 ⟨z, z', o, o', rfl, hR1, hR2, hb1⟩
  have HB1 := hidG hb1
  have HR1 := hidG hR1
  have HR2 := hidG hR2
  obtain ⟨s1, p1, l1, c1, s2, p2, l2, c2, rfl⟩ := hR1.1
  obtain ⟨s3, p3, l3, c3, s4, p4, l4, c4, rfl⟩ := hR2.1
  obtain ⟨W2, hW2⟩ : ∃ W2, (w1.alloc (.cells #[.bool s1, .slice p1 l1 c1, .bool s2, .slice p2 l2 c2] 65)).alloc (.cells #[.bool s3, .slice p3 l3 c3, .bool s4, .slice p4 l4 c4] 65) = W2 := ⟨_, rfl⟩
  have HW2 := hidG hW2
  have hB2 : Below w1.heap.size w1 W2 := by rw [← hW2]; exact below_al (below_alloc _ _) _
  have HB12 := hidG hB2
  have HB2 : Hid (Below w.heap.size w W2) := HB1.out.trans (hB2.mono HB1.out.size)
  have hxa : Bx W2 w1.heap.size [.bool s1, .slice p1 l1 c1, .bool s2, .slice p2 l2 c2] := by rw [← hW2]; exact (bx_new w1 _ _).alloc _
  have hxb : Bx W2 (w1.heap.size + 1) [.bool s3, .slice p3 l3 c3, .bool s4, .slice p4 l4 c4] := by
    rw [← hW2]
    have h := bx_new (w1.alloc (.cells #[.bool s1, .slice p1 l1 c1, .bool s2, .slice p2 l2 c2] 65)) [.bool s3, .slice p3 l3 c3, .bool s4, .slice p4 l4 c4] 65
    rw [World.size_alloc] at h
    exact h
  have HX : Hid (∀ W, Below W2.heap.size W2 W → Bx W w1.heap.size [.bool s1, .slice p1 l1 c1, .bool s2, .slice p2 l2 c2] ∧ Bx W (w1.heap.size + 1) [.bool s3, .slice p3 l3 c3, .bool s4, .slice p4 l4 c4]) := fun W hW => ⟨hxa.below hxa.lt hW, hxb.below hxb.lt hW⟩
  have k0 := hxa.cell 0
  have k1 := hxa.cell 1
  have k2 := hxa.cell 2
  have k3 := hxa.cell 3
  simp only [List.getElem?_cons_zero, List.getElem?_cons_succ] at k0 k1 k2 k3
  have j0 := hxb.cell 0
  have j1 := hxb.cell 1
  have j2 := hxb.cell 2
  have j3 := hxb.cell 3
  simp only [List.getElem?_cons_zero, List.getElem?_cons_succ] at j0 j1 j2 j3
  clear hR1 hR2 hb1 hW2 hB2 hxa hxb
  go_upto_region 2 with fail
  rw [HW2.out]
  cases hoo : (o && o')
  · have HF : Hid (RatMulRes s t ⟨#[]⟩) := resQ_no HK.out HM.out HR1.out.2.1 HR2.out.2.1 hoo
    clear hoo
    go_wp2
    go_ret
    exact ⟨_, rfl, HF.out, HB2.out⟩
  · have ho : o = true ∧ o' = true := by cases o <;> cases o' <;> simp_all
    obtain ⟨x1, y1, hV1, hQ1⟩ := HR1.out.2.2 ho.1
    obtain ⟨x2, y2, hV2, hQ2⟩ := HR2.out.2.2 ho.2
    have hl1 := ratV_lt hV1
    have hl2 := ratV_lt hV2
    have HQ1 := hidG ((hQ1.below HB12.out).tight hl1.1 hl1.2.1)
    have HQ2 := hidG ((hQ2.below HB12.out).tight hl2.1 hl2.2.1)
    have HDEN : Hid (y1 * y2 ≠ 0) := by
      show y1 * y2 ≠ 0
      have h := Int.mul_pos hl1.2.2 hl2.2.2
      omega
    have HF : Hid (∀ p q u, IsLow (x1 * x2) (y1 * y2) p q → TextR p q u → RatMulRes s t u) := fun p q u h1 h2 => ⟨k, m, HK.out, HM.out, .inl ⟨x1, y1, x2, y2, p, q, hV1, hV2, trivial, h1, h2⟩⟩
    clear hoo ho hV1 hV2 hQ1 hQ2 hl1 hl2
    go_wp2_with fail
    refine (timesQ_any w.heap.size _ _ x1 y1 x2 y2 W2 HQ1.out HQ2.out HDEN.out (HSP.out.below HB2.out) (HNS.out.below HB2.out)).mono ?_
    rintro e w3 ⟨z3, p, q, rfl, hr, hlow, hb3⟩
    have HR3 := hidG hr
    have HLOW := hidG hlow
    have HB3 := hidG (HB2.out.trans (hb3.mono HB2.out.size))
    obtain ⟨t1, a1, e1, g1, t2, a2, e2, g2, rfl, _, _⟩ := hr.shape
    clear hr hlow hb3 k0 k1 k2 k3 j0 j1 j2 j3
    go_wp2_with fail
    refine (textR_any 0 _ p q 564 _ (Nat.zero_le _) HR3.out (by omega) (HSP.out.below HB3.out) (HLT.out.below HB3.out)).mono ?_
    rintro e w4 ⟨u, rfl, hu, hb4⟩
    have HE := hidG (HF.out _ _ _ HLOW.out hu)
    have HB4 := hidG (HB3.out.trans (hb4.mono HB3.out.size))
    clear hu hb4
    go_wp2
    go_ret
    exact ⟨_, rfl, HE.out, HB4.out⟩
set_option maxRecDepth 100000 in
set_option maxHeartbeats 2000000 in
theorem specRatMul_any (s t : ByteArray) (w : World) (hs : s.size ≤ maxLen) (ht : t.size ≤ maxLen) :
    Calls Tryz.prog 25 #[.string s, .string t] w fun e w' => ∃ u, e = .returned (.string u) ∧ RatMulRes s t u ∧ Below w.heap.size w w' := by
  go_enter Tryz.func25, Tryz.ntmps25
  go_wp2_with fail
  refine (specIsRat_any s _ hs).mono ?_
  rintro e w1 ⟨b, rfl, hR1, hb1⟩
  obtain ⟨k, hk, hi1⟩ := hR1
  obtain ⟨m, hm⟩ := isCut_ex t
  have HK := hidG hk
  have HM := hidG hm
  have HI1 := hidG hi1
  have HB1 := hidG hb1
  clear hk hm hi1 hb1
  cases b
  · have HF : Hid (RatMulRes s t ⟨#[]⟩) := ⟨k, m, HK.out, HM.out, .inr ⟨fun h => by obtain ⟨_, _, _, _, g, _⟩ := h; exact Bool.noConfusion (HI1.out.2 ⟨_, _, g⟩), rfl⟩⟩
    go_wp2
    go_ret
    exact ⟨_, rfl, HF.out, HB1.out⟩
  · go_wp2_with fail
    refine (specIsRat_any t _ ht).mono ?_
    rintro e w2 ⟨b, rfl, hR2, hb2⟩
    obtain ⟨m', hm', hi2⟩ := hR2
    obtain rfl := isCut_unique hm' HM.out
    have HI2 := hidG hi2
    have HB2 := hidG (HB1.out.trans (hb2.mono HB1.out.size))
    clear hm' hi2 hb2
    cases b
    · have HF : Hid (RatMulRes s t ⟨#[]⟩) := ⟨k, _, HK.out, HM.out, .inr ⟨fun h => by obtain ⟨_, _, _, _, _, g, _⟩ := h; exact Bool.noConfusion (HI2.out.2 ⟨_, _, g⟩), rfl⟩⟩
      go_wp2
      go_ret
      exact ⟨_, rfl, HF.out, HB2.out⟩
    · obtain ⟨x1, y1, hV1⟩ := HI1.out.1 (by first | exact rfl | trivial)
      obtain ⟨x2, y2, hV2⟩ := HI2.out.1 (by first | exact rfl | trivial)
      have HV1 := hidG hV1
      have HV2 := hidG hV2
      have hl1 := ratV_lt hV1
      have hl2 := ratV_lt hV2
      have HLL : Hid (x1.natAbs < lb 280 ∧ y1.natAbs < lb 280 ∧ x2.natAbs < lb 280 ∧ y2.natAbs < lb 280) := ⟨hl1.1, hl1.2.1, hl2.1, hl2.2.1⟩
      have HDEN : Hid (y1 * y2 ≠ 0) := by
        show y1 * y2 ≠ 0
        have h := Int.mul_pos hl1.2.2 hl2.2.2
        omega
      have HF : Hid (∀ p q u, IsLow (x1 * x2) (y1 * y2) p q → TextR p q u → RatMulRes s t u) := fun p q u h1 h2 => ⟨k, _, HK.out, HM.out, .inl ⟨x1, y1, x2, y2, p, q, hV1, hV2, trivial, h1, h2⟩⟩
      clear hV1 hV2 hl1 hl2
      go_wp2_with fail
      refine (l2Read_any s k x1 y1 _ hs HK.out HV1.out).mono ?_
      rintro e w3 ⟨z1, rfl, hz1, hb3⟩
      have HZ1 := hidG hz1
      have HB3 := hidG (HB2.out.trans (hb3.mono HB2.out.size))
      clear hz1 hb3
      go_wp2_with fail
      refine (l2Read_any t _ x2 y2 _ ht HM.out HV2.out).mono ?_
      rintro e w4 ⟨z2, rfl, hz2, hb4⟩
      have HZ1' : Hid (IsQN 0 w4 z1 x1 y1) := qn_zero (HZ1.out.below hb4)
      have HZ2 : Hid (IsQN 0 w4 z2 x2 y2) := qn_zero hz2
      have HB4 := hidG (HB3.out.trans (hb4.mono HB3.out.size))
      clear hz2 hb4
      go_wp2_with fail
      refine (l2Mul_any 0 z1 z2 x1 y1 x2 y2 _ (Nat.zero_le _) HZ1'.out HZ2.out HLL.out HDEN.out).mono ?_
      rintro e w5 ⟨z5, p, q, rfl, hq, hlow, hb5⟩
      have HQ := hidG hq
      have HLOW := hidG hlow
      have HB5 := hidG (HB4.out.trans (hb5.mono HB4.out.size))
      clear hq hlow hb5
      go_wp2_with fail
      refine (l2Told_any 0 z5 p q _ (Nat.zero_le _) HQ.out).mono ?_
      rintro e w6 ⟨u, rfl, hu, hb6⟩
      have HE := hidG (HF.out _ _ _ HLOW.out hu)
      have HB6 := hidG (HB5.out.trans (hb6.mono HB5.out.size))
      clear hu hb6
      go_wp2
      go_ret
      exact ⟨_, rfl, HE.out, HB6.out⟩
end Go.Proofs.YtpjnglcojamfmaaGreatDoor
namespace Go.Proofs.YtpjnglcojamfmaaGreatDoor
open Go.ChangeShapes Go.WideShapes Go.ChangeAt Go.RowKit
set_option maxRecDepth 100000 in
set_option maxHeartbeats 8000000 in
theorem overQ_any (B : Nat) (za zb : Value) (x1 y1 x2 y2 : Int) (w : World) (ha : IsQR B w za x1 y1 280) (hb : IsQR B w zb x2 y2 280) (hd : y1 * x2 ≠ 0) (hSP : SP w) (hNS : NS w) :
    Calls Tryz.prog 58 #[za, zb] w fun e w' => ∃ z p q, e = .returned z ∧ IsQR 0 w' z p q 564 ∧ IsLow (x1 * y2) (y1 * x2) p q ∧ Below w.heap.size w w' := by
  obtain ⟨s1, p1, l1, c1, s2, p2, l2, c2, rfl, h1, h2⟩ := ha.shape
  obtain ⟨s3, p3, l3, c3, s4, p4, l4, c4, rfl, h3, h4⟩ := hb.shape
  have H1 := hidG h1
  have H2 := hidG h2
  have H3 := hidG h3
  have H4 := hidG h4
  have HSP := hidG hSP
  have HNS := hidG hNS
  have HD := hidG hd
  clear ha hb h1 h2 h3 h4 hSP hNS hd
  obtain ⟨W0, hW0⟩ : ∃ W0, ((w.alloc (.cells #[.bool s1, .slice p1 l1 c1, .bool s2, .slice p2 l2 c2] 65)).alloc (.cells #[.bool s3, .slice p3 l3 c3, .bool s4, .slice p4 l4 c4] 65)).alloc (.cells #[.bool false, .slice none 0 0, .bool false, .slice none 0 0] 65) = W0 := ⟨_, rfl⟩
  have HW0 := hidG hW0
  have HB0 : Hid (Below w.heap.size w W0) := by show Below w.heap.size w W0; rw [← hW0]; exact below_al (below_al (below_alloc _ _) _) _
  have hx0 : BxR w.heap.size W0 s1 p1 l1 c1 s2 p2 l2 c2 s3 p3 l3 c3 s4 p4 l4 c4 := by
    refine ⟨?_, ?_, ?_⟩
    · rw [← hW0]; exact ((bx_new w _ _).alloc _).alloc _
    · rw [← hW0]
      have h := bx_new (w.alloc (.cells #[.bool s1, .slice p1 l1 c1, .bool s2, .slice p2 l2 c2] 65)) [.bool s3, .slice p3 l3 c3, .bool s4, .slice p4 l4 c4] 65
      rw [World.size_alloc] at h
      exact h.alloc _
    · rw [← hW0]
      have h := bx_new ((w.alloc (.cells #[.bool s1, .slice p1 l1 c1, .bool s2, .slice p2 l2 c2] 65)).alloc (.cells #[.bool s3, .slice p3 l3 c3, .bool s4, .slice p4 l4 c4] 65)) [.bool false, .slice none 0 0, .bool false, .slice none 0 0] 65
      rw [World.size_alloc, World.size_alloc] at h
      exact h
  have HX : Hid (∀ W, Below W0.heap.size W0 W → BxR w.heap.size W s1 p1 l1 c1 s2 p2 l2 c2 s3 p3 l3 c3 s4 p4 l4 c4) := fun W hW => hx0.below hx0.r.lt hW
  have T1 : Hid (∀ W, Below W0.heap.size W0 W → Calls Tryz.prog 113 #[.agg #[.bool s1, .slice p1 l1 c1], .agg #[.bool s4, .slice p4 l4 c4]] W (fun e w' => ∃ z, e = .returned z ∧ IsI 0 w' z (x1 * y2) 560 ∧ Below W.heap.size W w')) := fun W hW => by
    refine (times_any B _ _ _ _ 280 280 W ((H1.out.below HB0.out).below hW) ((H4.out.below HB0.out).below hW) (by omega) (by omega) ((HSP.out.below HB0.out).below hW)).mono ?_
    rintro e w' ⟨z, rfl, hz, hb⟩
    exact ⟨z, rfl, hz.mono (Nat.zero_le _) (Nat.le_refl _), hb⟩
  have T2 : Hid (∀ W, Below W0.heap.size W0 W → Calls Tryz.prog 113 #[.agg #[.bool s2, .slice p2 l2 c2], .agg #[.bool s3, .slice p3 l3 c3]] W (fun e w' => ∃ z, e = .returned z ∧ IsI 0 w' z (y1 * x2) 560 ∧ Below W.heap.size W w')) := fun W hW => by
    refine (times_any B _ _ _ _ 280 280 W ((H2.out.below HB0.out).below hW) ((H3.out.below HB0.out).below hW) (by omega) (by omega) ((HSP.out.below HB0.out).below hW)).mono ?_
    rintro e w' ⟨z, rfl, hz, hb⟩
    exact ⟨z, rfl, hz.mono (Nat.zero_le _) (Nat.le_refl _), hb⟩
  have k0 := hx0.a.cell 0
  have k1 := hx0.a.cell 1
  have k2 := hx0.a.cell 2
  have k3 := hx0.a.cell 3
  simp only [List.getElem?_cons_zero, List.getElem?_cons_succ] at k0 k1 k2 k3
  have j0 := hx0.b.cell 0
  have j1 := hx0.b.cell 1
  have j2 := hx0.b.cell 2
  have j3 := hx0.b.cell 3
  simp only [List.getElem?_cons_zero, List.getElem?_cons_succ] at j0 j1 j2 j3
  clear hW0 hx0
  go_enter Tryz.func58, Tryz.ntmps58
  go_upto_region 1 with fail
  rw [HW0.out]
  go_wp2_with fail
  go_region_held3 (fun W => W.cell? ⟨w.heap.size, 0, none⟩ = some (.bool s1) ∧ W.cell? ⟨w.heap.size, 1, none⟩ = some (.slice p1 l1 c1) ∧ W.cell? ⟨w.heap.size, 2, none⟩ = some (.bool s2) ∧ W.cell? ⟨w.heap.size, 3, none⟩ = some (.slice p2 l2 c2) ∧ W.cell? ⟨w.heap.size + 1, 0, none⟩ = some (.bool s3) ∧ W.cell? ⟨w.heap.size + 1, 1, none⟩ = some (.slice p3 l3 c3) ∧ W.cell? ⟨w.heap.size + 1, 2, none⟩ = some (.bool s4) ∧ W.cell? ⟨w.heap.size + 1, 3, none⟩ = some (.slice p4 l4 c4)) (first | with_reducible assumption | with_reducible exact held_put (by with_reducible assumption) (w.heap.size + 1 + 1) (by omega) (by omega) _ _ _ _ | go_keep) (first
    | (go_at_call_of 113 (Value.slice p1 l1 c1)
       refine (T1.out _ ?_).mono ?_
       · exact (Below.refl _ W0).drew
       rintro e wt1 ⟨u1, rfl, hu, hb⟩
       have HU1 := hidG hu
       have HQ1 : Hid (Below W0.heap.size W0 wt1) := (Below.refl _ W0).drew.trans hb
       have hS0 := (HX.out wt1 HQ1.out).held
       clear hu hb)
    | (go_at_call_of 113 (Value.slice p2 l2 c2)
       refine (T2.out _ ?_).mono ?_
       · exact HQ1.out
       rintro e wt2 ⟨u2, rfl, hu, hb⟩
       have HU2 := hidG hu
       have HQ2 : Hid (Below W0.heap.size W0 wt2) := HQ1.out.trans (hb.mono HQ1.out.size)
       have HV1 := hidG (HU1.out.below hb)
       have hS1 := (HX.out wt2 HQ2.out).held
       clear hu hb)
    | (go_at_call 112
       refine (makeRational_any 0 _ _ (x1 * y2) (y1 * x2) 560 _ (Nat.zero_le _) HV1.out (HU2.out.mono (Nat.le_refl _) (by omega)) HD.out (by omega) ((HSP.out.below HB0.out).below HQ2.out) ((HNS.out.below HB0.out).below HQ2.out)).mono ?_
       rintro e wm ⟨zr, p, q, rfl, hr, hlow, hb⟩
       have HR := hidG (hr.mono (Nat.le_refl _) (n' := 564) (by omega))
       have HLOW := hidG hlow
       have HQM : Hid (Below W0.heap.size W0 wm) := HQ2.out.trans (hb.mono HQ2.out.size)
       obtain ⟨t1, a1, e1, g1, t2, a2, e2, g2, rfl, _, _⟩ := hr.shape
       have hxa := HX.out wm HQM.out
       have hSm := hxa.held
       have r0 := hxa.r.cell 0
       have r1 := hxa.r.cell 1
       have r2 := hxa.r.cell 2
       have r3 := hxa.r.cell 3
       simp only [List.getElem?_cons_zero, List.getElem?_cons_succ] at r0 r1 r2 r3
       have f0 := hxa.r.frozen 0
       have f1 := hxa.r.frozen 1
       have f2 := hxa.r.frozen 2
       have f3 := hxa.r.frozen 3
       clear hr hlow hb hxa))
  all_goals
    try simp only [List.getElem_toArray, List.getElem_cons_succ, List.getElem_cons_zero, Act.put, List.setIfInBounds_toArray, List.set_cons_succ, List.set_cons_zero]
    go_wp2
    have hbw := (HX.out wm HQM.out).r
    have hnR : NoInt wm (w.heap.size + 1 + 1) := noInt_of hbw (by simp)
    have hD9 := HR.out.put4 hnR (.bool t1) (.slice a1 e1 g1) (.bool t2) (.slice a2 e2 g2)
    have hB9 := set4 (HB0.out.trans (HQM.out.mono HB0.out.size)) (w.heap.size + 1 + 1) (by omega) (.bool t1) (.slice a1 e1 g1) (.bool t2) (.slice a2 e2 g2)
    have hZ : Bx ((((wm.setCell ⟨w.heap.size + 1 + 1, 0, none⟩ (.bool t1)).setCell ⟨w.heap.size + 1 + 1, 1, none⟩ (.slice a1 e1 g1)).setCell ⟨w.heap.size + 1 + 1, 2, none⟩ (.bool t2)).setCell ⟨w.heap.size + 1 + 1, 3, none⟩ (.slice a2 e2 g2)) (w.heap.size + 1 + 1) [.bool t1, .slice a1 e1 g1, .bool t2, .slice a2 e2 g2] := (((hbw.set 0 _).set 1 _).set 2 _).set 3 _
    generalize (((wm.setCell ⟨w.heap.size + 1 + 1, 0, none⟩ (.bool t1)).setCell ⟨w.heap.size + 1 + 1, 1, none⟩ (.slice a1 e1 g1)).setCell ⟨w.heap.size + 1 + 1, 2, none⟩ (.bool t2)).setCell ⟨w.heap.size + 1 + 1, 3, none⟩ (.slice a2 e2 g2) = W9 at *
    have v0 := hZ.cell 0
    have v1 := hZ.cell 1
    have v2 := hZ.cell 2
    have v3 := hZ.cell 3
    simp only [List.getElem?_cons_zero, List.getElem?_cons_succ] at v0 v1 v2 v3
    refine bodyPost_ret (v := .agg #[.bool t1, .slice a1 e1 g1, .bool t2, .slice a2 e2 g2]) ?_ rfl ⟨_, p, q, rfl, hD9, HLOW.out, hB9⟩
    simp [results, Tryz.results58, go_sem, v0, v1, v2, v3]
end Go.Proofs.YtpjnglcojamfmaaGreatDoor
namespace Go.Proofs.YtpjnglcojamfmaaGreatDoor
open Go.ChangeShapes Go.WideShapes Go.ChangeAt Go.RowKit
set_option maxRecDepth 100000 in
set_option maxHeartbeats 8000000 in
theorem l2Div_any (B : Nat) (za zd : Value) (x1 y1 x2 y2 : Int) (w : World) (hBw : B ≤ w.heap.size) (ha : IsQN B w za x1 y1) (hd : IsQN B w zd x2 y2) (hlt : x1.natAbs < lb 280 ∧ y1.natAbs < lb 280 ∧ x2.natAbs < lb 280 ∧ y2.natAbs < lb 280) (hden : y1 * x2 ≠ 0) :
    Calls Tryz.prog 62 #[za, zd] w fun e w' => ∃ z p q, e = .returned z ∧ IsQN 0 w' z p q ∧ IsLow (x1 * y2) (y1 * x2) p q ∧ Below w.heap.size w w' := by
  have HQA := hidG ha
  have HQD := hidG hd
  have HL := hidG hlt
  have HD := hidG hden
  obtain ⟨a0, an, aa, al, ac, b0, bn, ba, bl, bc, rfl, h1, h2⟩ := ha
  obtain ⟨d0, dn, da, dl, dc, e0, en, ea, el, ec, rfl, h3, h4⟩ := hd
  have H1 := hidG h1
  have H2 := hidG h2
  have H3 := hidG h3
  have H4 := hidG h4
  have HBW := hidG hBw
  clear h1 h2 h3 h4 hBw hlt hden
  obtain ⟨W0, hW0⟩ : ∃ W0, ((w.alloc (.cells #[.int .i64 a0, .bool an, .slice aa al ac, .int .i64 b0, .bool bn, .slice ba bl bc] 71)).alloc (.cells #[.int .i64 d0, .bool dn, .slice da dl dc, .int .i64 e0, .bool en, .slice ea el ec] 71)).alloc (.cells #[.int .i64 0, .bool false, .slice none 0 0, .int .i64 0, .bool false, .slice none 0 0] 71) = W0 := ⟨_, rfl⟩
  have HW0 := hidG hW0
  have HB0 : Hid (Below w.heap.size w W0) := by show Below w.heap.size w W0; rw [← hW0]; exact below_al (below_al (below_alloc _ _) _) _
  have hx0 : BxT w.heap.size W0 a0 an aa al ac b0 bn ba bl bc d0 dn da dl dc e0 en ea el ec := by
    refine ⟨?_, ?_, ?_⟩
    · rw [← hW0]; exact ((bx_new w _ _).alloc _).alloc _
    · rw [← hW0]
      have h := bx_new (w.alloc (.cells #[.int .i64 a0, .bool an, .slice aa al ac, .int .i64 b0, .bool bn, .slice ba bl bc] 71)) [.int .i64 d0, .bool dn, .slice da dl dc, .int .i64 e0, .bool en, .slice ea el ec] 71
      rw [World.size_alloc] at h
      exact h.alloc _
    · rw [← hW0]
      have h := bx_new ((w.alloc (.cells #[.int .i64 a0, .bool an, .slice aa al ac, .int .i64 b0, .bool bn, .slice ba bl bc] 71)).alloc (.cells #[.int .i64 d0, .bool dn, .slice da dl dc, .int .i64 e0, .bool en, .slice ea el ec] 71)) [.int .i64 0, .bool false, .slice none 0 0, .int .i64 0, .bool false, .slice none 0 0] 71
      rw [World.size_alloc, World.size_alloc] at h
      exact h
  have HX : Hid (∀ W, Below W0.heap.size W0 W → BxT w.heap.size W a0 an aa al ac b0 bn ba bl bc d0 dn da dl dc e0 en ea el ec) := fun W hW => hx0.below hx0.r.lt hW
  have T1 : Hid (∀ W, Below W0.heap.size W0 W → Calls Tryz.prog 52 #[.agg #[.int .i64 a0, .bool an, .slice aa al ac], .agg #[.int .i64 e0, .bool en, .slice ea el ec]] W (fun e w' => ∃ z, e = .returned z ∧ NumZ 0 w' z (x1 * y2) 560 ∧ Below W.heap.size W w')) := fun W hW => by
    refine (l1MulN_any B _ _ _ _ 1000 1000 W (by have := HBW.out; have := HB0.out.size; have := hW.size; omega) ((H1.out.below HB0.out).below hW) ((H4.out.below HB0.out).below hW) (by omega) (by omega)).mono ?_
    rintro e w' ⟨z, rfl, hz, hb⟩
    exact ⟨z, rfl, numZ_lt hz (mul_lt HL.out.1 HL.out.2.2.2), hb⟩
  have T2 : Hid (∀ W, Below W0.heap.size W0 W → Calls Tryz.prog 52 #[.agg #[.int .i64 b0, .bool bn, .slice ba bl bc], .agg #[.int .i64 d0, .bool dn, .slice da dl dc]] W (fun e w' => ∃ z, e = .returned z ∧ NumZ 0 w' z (y1 * x2) 560 ∧ Below W.heap.size W w')) := fun W hW => by
    refine (l1MulN_any B _ _ _ _ 1000 1000 W (by have := HBW.out; have := HB0.out.size; have := hW.size; omega) ((H2.out.below HB0.out).below hW) ((H3.out.below HB0.out).below hW) (by omega) (by omega)).mono ?_
    rintro e w' ⟨z, rfl, hz, hb⟩
    exact ⟨z, rfl, numZ_lt hz (mul_lt HL.out.2.1 HL.out.2.2.1), hb⟩
  have k0 := hx0.a.cell 0
  have k1 := hx0.a.cell 1
  have k2 := hx0.a.cell 2
  have k3 := hx0.a.cell 3
  have k4 := hx0.a.cell 4
  have k5 := hx0.a.cell 5
  simp only [List.getElem?_cons_zero, List.getElem?_cons_succ] at k0 k1 k2 k3 k4 k5
  have j0 := hx0.b.cell 0
  have j1 := hx0.b.cell 1
  have j2 := hx0.b.cell 2
  have j3 := hx0.b.cell 3
  have j4 := hx0.b.cell 4
  have j5 := hx0.b.cell 5
  simp only [List.getElem?_cons_zero, List.getElem?_cons_succ] at j0 j1 j2 j3 j4 j5
  clear hW0 hx0
  go_enter Tryz.func62, Tryz.ntmps62
  go_upto_region 1 with fail
  rw [HW0.out]
  have HQ0 : Hid (Below W0.heap.size W0 W0) := Below.refl _ _
  go_wp2_with fail
  go_region_held3 (fun W => W.cell? ⟨w.heap.size, 0, none⟩ = some (.int .i64 a0) ∧ W.cell? ⟨w.heap.size, 1, none⟩ = some (.bool an) ∧ W.cell? ⟨w.heap.size, 2, none⟩ = some (.slice aa al ac) ∧ W.cell? ⟨w.heap.size, 3, none⟩ = some (.int .i64 b0) ∧ W.cell? ⟨w.heap.size, 4, none⟩ = some (.bool bn) ∧ W.cell? ⟨w.heap.size, 5, none⟩ = some (.slice ba bl bc) ∧ W.cell? ⟨w.heap.size + 1, 0, none⟩ = some (.int .i64 d0) ∧ W.cell? ⟨w.heap.size + 1, 1, none⟩ = some (.bool dn) ∧ W.cell? ⟨w.heap.size + 1, 2, none⟩ = some (.slice da dl dc) ∧ W.cell? ⟨w.heap.size + 1, 3, none⟩ = some (.int .i64 e0) ∧ W.cell? ⟨w.heap.size + 1, 4, none⟩ = some (.bool en) ∧ W.cell? ⟨w.heap.size + 1, 5, none⟩ = some (.slice ea el ec)) (first | with_reducible assumption | with_reducible exact held_put6 (by with_reducible assumption) (w.heap.size + 1 + 1) (by omega) (by omega) _ _ _ _ _ _ | go_keep) (first
    | (go_at_call_of 52 (Value.int IntKind.i64 a0)
       refine (T1.out _ ?_).mono ?_
       · exact HQ0.out.drew
       rintro e wt1 ⟨u1, rfl, hu, hb⟩
       have HU1 := hidG hu
       have HT1 : Hid (Below W0.heap.size W0 wt1) := HQ0.out.drew.trans (hb.mono HQ0.out.size)
       have hS0 := (HX.out wt1 HT1.out).held
       clear hu hb)
    | (go_at_call_of 52 (Value.int IntKind.i64 b0)
       refine (T2.out _ ?_).mono ?_
       · exact HT1.out
       rintro e wt2 ⟨u2, rfl, hu, hb⟩
       have HU2 := hidG hu
       have HT2 : Hid (Below W0.heap.size W0 wt2) := HT1.out.trans (hb.mono HT1.out.size)
       have HV1 := hidG (HU1.out.below hb)
       have hS1 := (HX.out wt2 HT2.out).held
       clear hu hb)
    | (go_at_call 69
       refine (l2Make_any 0 _ _ (x1 * y2) (y1 * x2) _ (Nat.zero_le _) (numZ_le HV1.out (by omega)) (numZ_le HU2.out (by omega)) HD.out).mono ?_
       rintro e wm ⟨zr, p, q, rfl, hr, hlow, hb⟩
       have HLOW := hidG hlow
       have HTM : Hid (Below W0.heap.size W0 wm) := HT2.out.trans (hb.mono HT2.out.size)
       obtain ⟨g0, gn, ga, gl, gc, h0, hn, hA, hl, hc, rfl, hg, hh⟩ := hr
       have HG := hidG hg
       have HH := hidG hh
       have hxa := HX.out wm HTM.out
       have hSm := hxa.held
       have r0 := hxa.r.cell 0
       have r1 := hxa.r.cell 1
       have r2 := hxa.r.cell 2
       have r3 := hxa.r.cell 3
       have r4 := hxa.r.cell 4
       have r5 := hxa.r.cell 5
       simp only [List.getElem?_cons_zero, List.getElem?_cons_succ] at r0 r1 r2 r3 r4 r5
       have f0 := hxa.r.frozen 0
       have f1 := hxa.r.frozen 1
       have f2 := hxa.r.frozen 2
       have f3 := hxa.r.frozen 3
       have f4 := hxa.r.frozen 4
       have f5 := hxa.r.frozen 5
       clear hg hh hlow hb hxa))
  all_goals
    try simp only [List.getElem_toArray, List.getElem_cons_succ, List.getElem_cons_zero, Act.put, List.setIfInBounds_toArray, List.set_cons_succ, List.set_cons_zero]
    go_wp2
    have hbw := (HX.out wm HTM.out).r
    have hnR : NoInt wm (w.heap.size + 1 + 1) := noInt_of hbw (by simp)
    have hk := keeps6 wm (w.heap.size + 1 + 1) (.int .i64 g0) (.bool gn) (.slice ga gl gc) (.int .i64 h0) (.bool hn) (.slice hA hl hc)
    have hP9 := (HG.out).keeps hnR hnR hk
    have hQ9 := (HH.out).keeps hnR hnR hk
    have hB9 := set6 (HB0.out.trans (HTM.out.mono HB0.out.size)) (w.heap.size + 1 + 1) (by omega) (.int .i64 g0) (.bool gn) (.slice ga gl gc) (.int .i64 h0) (.bool hn) (.slice hA hl hc)
    have hZ := hbw.put6 (.int .i64 g0) (.bool gn) (.slice ga gl gc) (.int .i64 h0) (.bool hn) (.slice hA hl hc)
    have hWW : ((((((wm.setCell ⟨w.heap.size + 1 + 1, 0, none⟩ (.int .i64 g0)).setCell ⟨w.heap.size + 1 + 1, 1, none⟩ (.bool gn)).setCell ⟨w.heap.size + 1 + 1, 2, none⟩ (.slice ga gl gc)).setCell ⟨w.heap.size + 1 + 1, 3, none⟩ (.int .i64 h0)).setCell ⟨w.heap.size + 1 + 1, 4, none⟩ (.bool hn)).setCell ⟨w.heap.size + 1 + 1, 5, none⟩ (.slice hA hl hc)) = W6 wm (w.heap.size + 1 + 1) (.int .i64 g0) (.bool gn) (.slice ga gl gc) (.int .i64 h0) (.bool hn) (.slice hA hl hc) := rfl
    rw [hWW]
    generalize W6 wm (w.heap.size + 1 + 1) (.int .i64 g0) (.bool gn) (.slice ga gl gc) (.int .i64 h0) (.bool hn) (.slice hA hl hc) = W9 at *
    have o0 := hZ.cell 0
    have o1 := hZ.cell 1
    have o2 := hZ.cell 2
    have o3 := hZ.cell 3
    have o4 := hZ.cell 4
    have o5 := hZ.cell 5
    simp only [List.getElem?_cons_zero, List.getElem?_cons_succ] at o0 o1 o2 o3 o4 o5
    refine bodyPost_ret (v := .agg #[.int .i64 g0, .bool gn, .slice ga gl gc, .int .i64 h0, .bool hn, .slice hA hl hc]) ?_ rfl ⟨_, p, q, rfl, ⟨g0, gn, ga, gl, gc, h0, hn, hA, hl, hc, rfl, hP9, hQ9⟩, HLOW.out, hB9⟩
    simp [results, Tryz.results62, go_sem, o0, o1, o2, o3, o4, o5]
end Go.Proofs.YtpjnglcojamfmaaGreatDoor
namespace Go.Proofs.YtpjnglcojamfmaaGreatDoor
open Go.ChangeShapes Go.WideShapes Go.ChangeAt Go.RowKit
abbrev RatDivRes : ByteArray → ByteArray → ByteArray → Prop := IsResQ (fun x1 _ _ y2 => x1 * y2) (fun _ y1 x2 _ => y1 * x2) (fun x2 => x2 ≠ 0)
theorem resD_zero {s t : ByteArray} {k m : Option Nat} {x y : Int} (hk : IsCut s k) (hm : IsCut t m) (hV : RatV t m x y) (h0 : x = 0) : RatDivRes s t ⟨#[]⟩ := by
  refine ⟨k, m, hk, hm, .inr ⟨fun hh => ?_, rfl⟩⟩
  obtain ⟨_, _, _, _, _, g2, g3⟩ := hh
  exact g3 ((ratV_one g2 hV).1.trans h0)
theorem ratV_zero {t : ByteArray} {m : Option Nat} {x y : Int} (hm : IsCut t m) (hV : RatV t m x y) : (t.toList == [48]) = decide (x = 0) := by
  cases m with
  | none =>
    cases h0 : (t.toList == [48])
    · have := zero_text t hV.1 h0
      rw [← hV.2.1] at this
      exact (decide_eq_false this).symm
    · have := zero_text' t h0
      rw [← hV.2.1] at this
      exact (decide_eq_true this).symm
  | some i =>
    have hx : x ≠ 0 := fun h => by
      have h1 := hV.2.2.1
      rw [h] at h1
      cases h0 : ((cutP t (some i)).toList == [48])
      · exact zero_text _ hV.1.1 h0 h1.symm
      · refine hV.2.1.2.1 ?_
        rw [eqB] at h0
        exact of_decide_eq_true h0
    rw [decide_eq_false hx, eqB]
    refine decide_eq_false fun h => ?_
    have h1 := hm.1
    rw [h] at h1
    cases i with
    | zero => simp [strB] at h1
    | succ n => simp [strB] at h1
set_option maxRecDepth 100000 in
set_option maxHeartbeats 2000000 in
theorem implRatDiv_any (s t : ByteArray) (w : World) (hs : s.size ≤ maxLen) (ht : t.size ≤ maxLen) (hSP : SP w) (hNS : NS w) (hLT : LT w) :
    Calls Tryz.prog 23 #[.string s, .string t] w fun e w' => ∃ u, e = .returned (.string u) ∧ RatDivRes s t u ∧ Below w.heap.size w w' := by
  obtain ⟨k, hk⟩ := isCut_ex s
  obtain ⟨m, hm⟩ := isCut_ex t
  have HK := hidG hk
  have HM := hidG hm
  have HSP := hidG hSP
  have HNS := hidG hNS
  have HLT := hidG hLT
  clear hk hm hSP hNS hLT
  go_enter Tryz.func23, Tryz.ntmps23
  go_wp2_with fail
  refine (readRationals_any s t k m _ hs ht HK.out HM.out HSP.out HNS.out HLT.out).mono ?_
  rintro e w1 ⟨z, z', o, o', rfl, hR1, hR2, hb1⟩
  have HB1 := hidG hb1
  have HR1 := hidG hR1
  have HR2 := hidG hR2
  obtain ⟨s1, p1, l1, c1, s2, p2, l2, c2, rfl⟩ := hR1.1
  obtain ⟨s3, p3, l3, c3, s4, p4, l4, c4, rfl⟩ := hR2.1
  obtain ⟨W2, hW2⟩ : ∃ W2, (w1.alloc (.cells #[.bool s1, .slice p1 l1 c1, .bool s2, .slice p2 l2 c2] 65)).alloc (.cells #[.bool s3, .slice p3 l3 c3, .bool s4, .slice p4 l4 c4] 65) = W2 := ⟨_, rfl⟩
  have HW2 := hidG hW2
  have hB2 : Below w1.heap.size w1 W2 := by rw [← hW2]; exact below_al (below_alloc _ _) _
  have HB12 := hidG hB2
  have HB2 : Hid (Below w.heap.size w W2) := HB1.out.trans (hB2.mono HB1.out.size)
  have hxa : Bx W2 w1.heap.size [.bool s1, .slice p1 l1 c1, .bool s2, .slice p2 l2 c2] := by rw [← hW2]; exact (bx_new w1 _ _).alloc _
  have hxb : Bx W2 (w1.heap.size + 1) [.bool s3, .slice p3 l3 c3, .bool s4, .slice p4 l4 c4] := by
    rw [← hW2]
    have h := bx_new (w1.alloc (.cells #[.bool s1, .slice p1 l1 c1, .bool s2, .slice p2 l2 c2] 65)) [.bool s3, .slice p3 l3 c3, .bool s4, .slice p4 l4 c4] 65
    rw [World.size_alloc] at h
    exact h
  have HX : Hid (∀ W, Below W2.heap.size W2 W → Bx W w1.heap.size [.bool s1, .slice p1 l1 c1, .bool s2, .slice p2 l2 c2] ∧ Bx W (w1.heap.size + 1) [.bool s3, .slice p3 l3 c3, .bool s4, .slice p4 l4 c4]) := fun W hW => ⟨hxa.below hxa.lt hW, hxb.below hxb.lt hW⟩
  have k0 := hxa.cell 0
  have k1 := hxa.cell 1
  have k2 := hxa.cell 2
  have k3 := hxa.cell 3
  simp only [List.getElem?_cons_zero, List.getElem?_cons_succ] at k0 k1 k2 k3
  have j0 := hxb.cell 0
  have j1 := hxb.cell 1
  have j2 := hxb.cell 2
  have j3 := hxb.cell 3
  simp only [List.getElem?_cons_zero, List.getElem?_cons_succ] at j0 j1 j2 j3
  clear hR1 hR2 hb1 hW2 hB2 hxa hxb
  go_upto_region 2 with fail
  rw [HW2.out]
  cases hoo : (o && o')
  · have HF : Hid (RatDivRes s t ⟨#[]⟩) := resQ_no HK.out HM.out HR1.out.2.1 HR2.out.2.1 hoo
    clear hoo
    go_wp2
    go_ret
    exact ⟨_, rfl, HF.out, HB2.out⟩
  · have ho : o = true ∧ o' = true := by cases o <;> cases o' <;> simp_all
    obtain ⟨x1, y1, hV1, hQ1⟩ := HR1.out.2.2 ho.1
    obtain ⟨x2, y2, hV2, hQ2⟩ := HR2.out.2.2 ho.2
    have hl1 := ratV_lt hV1
    have hl2 := ratV_lt hV2
    have HV2 := hidG hV2
    have HQ1 := hidG ((hQ1.below HB12.out).tight hl1.1 hl1.2.1)
    have HQ2 := hidG ((hQ2.below HB12.out).tight hl2.1 hl2.2.1)
    have HYP : Hid (0 < y1) := hl1.2.2
    have HF : Hid (∀ p q u, x2 ≠ 0 → IsLow (x1 * y2) (y1 * x2) p q → TextR p q u → RatDivRes s t u) := fun p q u h0 h1 h2 => ⟨k, m, HK.out, HM.out, .inl ⟨x1, y1, x2, y2, p, q, hV1, hV2, h0, h1, h2⟩⟩
    have hL3 : l3 = 0 ↔ x2 = 0 := by
      obtain ⟨s1', v1, s2', v2, he, hi1, _⟩ := hQ2
      simp only [Value.agg.injEq, Array.mk.injEq, List.cons.injEq, Value.bool.injEq, and_true] at he
      obtain ⟨_, rfl, _, rfl⟩ := he
      obtain ⟨neg, tt, _, hL, htr, hv, _⟩ := hi1.parts
      obtain ⟨_, _, e, _⟩ := hL
      simp only [Value.slice.injEq] at e
      rw [e.2.1, ← hv, sg_zero_iff _ _ htr]
      exact List.length_eq_zero_iff
    have HL3 := hidG hL3
    clear hoo ho hV1 hV2 hQ1 hQ2 hl1 hl2 hL3
    go_wp2_with fail
    refine (isZero_any _ _ _ _ _).mono ?_
    rintro e w3 ⟨rfl, hw3⟩
    have HB23 : Hid (Below W2.heap.size W2 w3) := by show Below W2.heap.size W2 w3; rw [hw3]; exact below_alloc _ _
    have HB3 := hidG (HB2.out.trans (HB23.out.mono HB2.out.size))
    have hx3 := HX.out w3 HB23.out
    clear hw3 k0 k1 k2 k3 j0 j1 j2 j3
    by_cases hz : l3 = 0
    · have z : ((l3 : Int) == 0) = true := by rw [beq_iff_eq]; omega
      have HE : Hid (RatDivRes s t ⟨#[]⟩) := resD_zero HK.out HM.out HV2.out (HL3.out.1 hz)
      rw [z]
      clear z hz hx3
      go_wp2
      go_ret
      exact ⟨_, rfl, HE.out, HB3.out⟩
    · have z : ((l3 : Int) == 0) = false := by rw [beq_eq_false_iff_ne]; omega
      have HX2 : Hid (x2 ≠ 0) := fun h => hz (HL3.out.2 h)
      have HDEN : Hid (y1 * x2 ≠ 0) := Int.mul_ne_zero (by have := HYP.out; omega) HX2.out
      rw [z]
      have k0 := hx3.1.cell 0
      have k1 := hx3.1.cell 1
      have k2 := hx3.1.cell 2
      have k3 := hx3.1.cell 3
      have j0 := hx3.2.cell 0
      have j1 := hx3.2.cell 1
      have j2 := hx3.2.cell 2
      have j3 := hx3.2.cell 3
      simp only [List.getElem?_cons_zero, List.getElem?_cons_succ] at k0 k1 k2 k3 j0 j1 j2 j3
      clear z hz hx3
      go_wp2_with fail
      refine (overQ_any w.heap.size _ _ x1 y1 x2 y2 w3 (HQ1.out.below HB23.out) (HQ2.out.below HB23.out) HDEN.out (HSP.out.below HB3.out) (HNS.out.below HB3.out)).mono ?_
      rintro e w4 ⟨z4, p, q, rfl, hr, hlow, hb4⟩
      have HR4 := hidG hr
      have HLOW := hidG hlow
      have HB4 := hidG (HB3.out.trans (hb4.mono HB3.out.size))
      obtain ⟨t1, a1, e1, g1, t2, a2, e2, g2, rfl, _, _⟩ := hr.shape
      clear hr hlow hb4 k0 k1 k2 k3 j0 j1 j2 j3
      go_wp2_with fail
      refine (textR_any 0 _ p q 564 _ (Nat.zero_le _) HR4.out (by omega) (HSP.out.below HB4.out) (HLT.out.below HB4.out)).mono ?_
      rintro e w5 ⟨u, rfl, hu, hb5⟩
      have HE := hidG (HF.out _ _ _ HX2.out HLOW.out hu)
      have HB5 := hidG (HB4.out.trans (hb5.mono HB4.out.size))
      clear hu hb5
      go_wp2
      go_ret
      exact ⟨_, rfl, HE.out, HB5.out⟩
set_option maxRecDepth 100000 in
set_option maxHeartbeats 2000000 in
theorem specRatDiv_any (s t : ByteArray) (w : World) (hs : s.size ≤ maxLen) (ht : t.size ≤ maxLen) :
    Calls Tryz.prog 24 #[.string s, .string t] w fun e w' => ∃ u, e = .returned (.string u) ∧ RatDivRes s t u ∧ Below w.heap.size w w' := by
  go_enter Tryz.func24, Tryz.ntmps24
  go_wp2_with fail
  refine (specIsRat_any s _ hs).mono ?_
  rintro e w1 ⟨b, rfl, hR1, hb1⟩
  obtain ⟨k, hk, hi1⟩ := hR1
  obtain ⟨m, hm⟩ := isCut_ex t
  have HK := hidG hk
  have HM := hidG hm
  have HI1 := hidG hi1
  have HB1 := hidG hb1
  clear hk hm hi1 hb1
  cases b
  · have HF : Hid (RatDivRes s t ⟨#[]⟩) := ⟨k, m, HK.out, HM.out, .inr ⟨fun h => by obtain ⟨_, _, _, _, g, _⟩ := h; exact Bool.noConfusion (HI1.out.2 ⟨_, _, g⟩), rfl⟩⟩
    go_wp2
    go_ret
    exact ⟨_, rfl, HF.out, HB1.out⟩
  · go_wp2_with fail
    refine (specIsRat_any t _ ht).mono ?_
    rintro e w2 ⟨b, rfl, hR2, hb2⟩
    obtain ⟨m', hm', hi2⟩ := hR2
    obtain rfl := isCut_unique hm' HM.out
    have HI2 := hidG hi2
    have HB2 := hidG (HB1.out.trans (hb2.mono HB1.out.size))
    clear hm' hi2 hb2
    cases b
    · have HF : Hid (RatDivRes s t ⟨#[]⟩) := ⟨k, _, HK.out, HM.out, .inr ⟨fun h => by obtain ⟨_, _, _, _, _, g, _⟩ := h; exact Bool.noConfusion (HI2.out.2 ⟨_, _, g⟩), rfl⟩⟩
      go_wp2
      go_ret
      exact ⟨_, rfl, HF.out, HB2.out⟩
    · obtain ⟨x1, y1, hV1⟩ := HI1.out.1 (by first | exact rfl | trivial)
      obtain ⟨x2, y2, hV2⟩ := HI2.out.1 (by first | exact rfl | trivial)
      have HV1 := hidG hV1
      have HV2 := hidG hV2
      have hl1 := ratV_lt hV1
      have hl2 := ratV_lt hV2
      have HLL : Hid (x1.natAbs < lb 280 ∧ y1.natAbs < lb 280 ∧ x2.natAbs < lb 280 ∧ y2.natAbs < lb 280) := ⟨hl1.1, hl1.2.1, hl2.1, hl2.2.1⟩
      have HYP : Hid (0 < y1) := hl1.2.2
      have HF : Hid (∀ p q u, x2 ≠ 0 → IsLow (x1 * y2) (y1 * x2) p q → TextR p q u → RatDivRes s t u) := fun p q u h0 h1 h2 => ⟨k, _, HK.out, HM.out, .inl ⟨x1, y1, x2, y2, p, q, hV1, hV2, h0, h1, h2⟩⟩
      have hzt := ratV_zero HM.out hV2
      clear hV1 hV2 hl1 hl2
      by_cases hx : x2 = 0
      · have z : (t.toList == [48]) = true := hzt.trans (decide_eq_true hx)
        have HE : Hid (RatDivRes s t ⟨#[]⟩) := resD_zero HK.out HM.out HV2.out hx
        clear hzt hx
        go_wp2
        go_ret
        exact ⟨_, rfl, HE.out, HB2.out⟩
      have z : (t.toList == [48]) = false := hzt.trans (decide_eq_false hx)
      have HX2 : Hid (x2 ≠ 0) := hx
      have HDEN : Hid (y1 * x2 ≠ 0) := Int.mul_ne_zero (by have := HYP.out; omega) hx
      clear hzt hx
      go_wp2_with fail
      refine (l2Read_any s k x1 y1 _ hs HK.out HV1.out).mono ?_
      rintro e w3 ⟨z1, rfl, hz1, hb3⟩
      have HZ1 := hidG hz1
      have HB3 := hidG (HB2.out.trans (hb3.mono HB2.out.size))
      clear hz1 hb3
      go_wp2_with fail
      refine (l2Read_any t _ x2 y2 _ ht HM.out HV2.out).mono ?_
      rintro e w4 ⟨z2, rfl, hz2, hb4⟩
      have HZ1' : Hid (IsQN 0 w4 z1 x1 y1) := qn_zero (HZ1.out.below hb4)
      have HZ2 : Hid (IsQN 0 w4 z2 x2 y2) := qn_zero hz2
      have HB4 := hidG (HB3.out.trans (hb4.mono HB3.out.size))
      clear hz2 hb4
      go_wp2_with fail
      refine (l2Div_any 0 z1 z2 x1 y1 x2 y2 _ (Nat.zero_le _) HZ1'.out HZ2.out HLL.out HDEN.out).mono ?_
      rintro e w5 ⟨z5, p, q, rfl, hq, hlow, hb5⟩
      have HQ := hidG hq
      have HLOW := hidG hlow
      have HB5 := hidG (HB4.out.trans (hb5.mono HB4.out.size))
      clear hq hlow hb5
      go_wp2_with fail
      refine (l2Told_any 0 z5 p q _ (Nat.zero_le _) HQ.out).mono ?_
      rintro e w6 ⟨u, rfl, hu, hb6⟩
      have HE := hidG (HF.out _ _ _ HX2.out HLOW.out hu)
      have HB6 := hidG (HB5.out.trans (hb6.mono HB5.out.size))
      clear hu hb6
      go_wp2
      go_ret
      exact ⟨_, rfl, HE.out, HB6.out⟩
end Go.Proofs.YtpjnglcojamfmaaGreatDoor
