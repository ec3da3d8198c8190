import Derived.Test.YtfmpapcfhoomkaaGreatDoorK2p
import Derived.Test.YtfmpapcfhoomkaaGreatDoorRatKp
import Derived.Test.YtfmpapcfhoomkaaGreatDoorMulBSp
import Derived.Deep.RegionHeld3
import Derived.Test.YtfmpapcfhoomkaaGreatDoorQIp
namespace Go.Proofs.YtfmpapcfhoomkaaGreatDoor
open Go.ChangeShapes Go.WideShapes Go.ChangeAt Go.RowKit
structure BxS (h : Nat) (W : World) (a0 : Int) (an : Bool) (aa : Option Addr) (al ac : Nat) (b0 : Int) (bn : Bool) (ba : Option Addr) (bl bc : Nat) (d0 : Int) (dn : Bool) (da : Option Addr) (dl dc : Nat) (e0 : Int) (en : Bool) (ea : Option Addr) (el ec : Nat) : Prop where
 a : Bx W h [.int .i64 a0, .bool an, .slice aa al ac, .int .i64 b0, .bool bn, .slice ba bl bc]
 b : Bx W (h + 1) [.int .i64 d0, .bool dn, .slice da dl dc, .int .i64 e0, .bool en, .slice ea el ec]
theorem BxS.below {h N : Nat} {W W' : World} {a0 : Int} {an : Bool} {aa : Option Addr} {al ac : Nat} {b0 : Int} {bn : Bool} {ba : Option Addr} {bl bc : Nat} {d0 : Int} {dn : Bool} {da : Option Addr} {dl dc : Nat} {e0 : Int} {en : Bool} {ea : Option Addr} {el ec : Nat} (m : BxS h W a0 an aa al ac b0 bn ba bl bc d0 dn da dl dc e0 en ea el ec) (hN : h + 2 ≤ N) (hb : Below N W W') : BxS h W' a0 an aa al ac b0 bn ba bl bc d0 dn da dl dc e0 en ea el ec :=
 ⟨m.a.below (by omega) hb, m.b.below (by omega) hb⟩
theorem BxS.held {h : Nat} {W : World} {a0 : Int} {an : Bool} {aa : Option Addr} {al ac : Nat} {b0 : Int} {bn : Bool} {ba : Option Addr} {bl bc : Nat} {d0 : Int} {dn : Bool} {da : Option Addr} {dl dc : Nat} {e0 : Int} {en : Bool} {ea : Option Addr} {el ec : Nat} (m : BxS h W a0 an aa al ac b0 bn ba bl bc d0 dn da dl dc e0 en ea el ec) : W.cell? ⟨h, 0, none⟩ = some (.int .i64 a0) ∧ W.cell? ⟨h, 1, none⟩ = some (.bool an) ∧ W.cell? ⟨h, 2, none⟩ = some (.slice aa al ac) ∧ W.cell? ⟨h, 3, none⟩ = some (.int .i64 b0) ∧ W.cell? ⟨h, 4, none⟩ = some (.bool bn) ∧ W.cell? ⟨h, 5, none⟩ = some (.slice ba bl bc) ∧ W.cell? ⟨h + 1, 0, none⟩ = some (.int .i64 d0) ∧ W.cell? ⟨h + 1, 1, none⟩ = some (.bool dn) ∧ W.cell? ⟨h + 1, 2, none⟩ = some (.slice da dl dc) ∧ W.cell? ⟨h + 1, 3, none⟩ = some (.int .i64 e0) ∧ W.cell? ⟨h + 1, 4, none⟩ = some (.bool en) ∧ W.cell? ⟨h + 1, 5, none⟩ = some (.slice ea el ec) :=
 ⟨m.a.cell 0, m.a.cell 1, m.a.cell 2, m.a.cell 3, m.a.cell 4, m.a.cell 5, m.b.cell 0, m.b.cell 1, m.b.cell 2, m.b.cell 3, m.b.cell 4, m.b.cell 5⟩
theorem l1MulN_any (B : Nat) (za zb : Value) (x y : Int) (n m : Nat) (w : World) (hBw : B ≤ w.heap.size) (ha : NumZ B w za x n) (hb : NumZ B w zb y m) (hn : n ≤ 100000) (hm : m ≤ 100000) :
 Calls Tryz.prog 49 #[za, zb] w fun e w' => ∃ z, e = .returned z ∧ IsN 0 w' z (x * y) ∧ Up w w' := by
 obtain ⟨na, a, hza, rfl, hla⟩ := ha; obtain ⟨nb, b, hzb, rfl, hlb⟩ := hb; refine (l1Mul_any B za zb na nb a b w hBw hza hzb (by omega) (by omega)).mono ?_; rintro e w' ⟨z, rfl, hz, hb⟩; exact ⟨z, rfl, hz.mono (Nat.zero_le _), hb⟩
theorem l1CmpN_any (B : Nat) (za zb : Value) (x y : Int) (w : World) (hBw : B ≤ w.heap.size) (ha : IsN B w za x) (hb : IsN B w zb y) :
 Calls Tryz.prog 50 #[za, zb] w fun e w' => e = .returned (.int .i64 (ordI x y)) ∧ Up w w' := by
 obtain ⟨na, a, hza, rfl⟩ := ha; obtain ⟨nb, b, hzb, rfl⟩ := hb; refine (l1Cmp_any B za zb na nb a b w hBw hza hzb).mono ?_; rintro e w' ⟨rfl, hb⟩; exact ⟨by rw [cmpI_ord na nb a b hza.1 hzb.1 hza.2.1 hzb.2.1], hb⟩
set_option maxRecDepth 100000 in
set_option maxHeartbeats 4000000 in
theorem l2Cmp_any (B : Nat) (za zd : Value) (x1 y1 x2 y2 : Int) (w : World) (hBw : B ≤ w.heap.size) (ha : IsQN B w za x1 y1) (hd : IsQN B w zd x2 y2) :
 Calls Tryz.prog 78 #[za, zd] w fun e w' => e = .returned (.int .i64 (ordI (x1 * y2) (x2 * y1))) ∧ Up w w' := by
 have HQA := Hd ha; have HQD := Hd hd; obtain ⟨a0, an, aa, al, ac, b0, bn, ba, bl, bc, rfl, h1, h2⟩ := ha; obtain ⟨d0, dn, da, dl, dc, e0, en, ea, el, ec, rfl, h3, h4⟩ := hd; have H1 := Hd h1; have H2 := Hd h2; have H3 := Hd h3; have H4 := Hd h4; have HBW := Hd hBw; clear h1 h2 h3 h4 hBw; obtain ⟨W0, hW0⟩ := exW ((w.alloc (.cells #[.int .i64 a0, .bool an, .slice aa al ac, .int .i64 b0, .bool bn, .slice ba bl bc] 70)).alloc (.cells #[.int .i64 d0, .bool dn, .slice da dl dc, .int .i64 e0, .bool en, .slice ea el ec] 70)); have HW0 := Hd hW0; have HB0 : Hid (Up w W0) := by unfold Hid; rw [← hW0]; exact below_al (below_alloc _ _) _
 have hx0 : BxS w.heap.size W0 a0 an aa al ac b0 bn ba bl bc d0 dn da dl dc e0 en ea el ec := by
  refine ⟨?_, ?_⟩
  ·rw [← hW0]; exact (bx_new w _ _).alloc _
  rw [← hW0]; have h := bx_new (w.alloc (.cells #[.int .i64 a0, .bool an, .slice aa al ac, .int .i64 b0, .bool bn, .slice ba bl bc] 70)) [.int .i64 d0, .bool dn, .slice da dl dc, .int .i64 e0, .bool en, .slice ea el ec] 70; rw [World.size_alloc] at h; exact h
 have HX : Hid (∀ W, Up W0 W → BxS w.heap.size W a0 an aa al ac b0 bn ba bl bc d0 dn da dl dc e0 en ea el ec) := fun W hW => hx0.below hx0.b.lt hW; have T1 : Hid (∀ W, Up W0 W → Calls Tryz.prog 49 #[.agg #[.int .i64 a0, .bool an, .slice aa al ac], .agg #[.int .i64 e0, .bool en, .slice ea el ec]] W (fun e w' => ∃ z, e = .returned z ∧ IsN 0 w' z (x1 * y2) ∧ Up W w')) := fun W hW =>
  l1MulN_any B _ _ _ _ 1000 1000 W (by have := HBW.o; have := HB0.o.size; have := hW.size; omega) ((H1.o.below HB0.o).below hW) ((H4.o.below HB0.o).below hW) (by omega) (by omega)
 have T2 : Hid (∀ W, Up W0 W → Calls Tryz.prog 49 #[.agg #[.int .i64 d0, .bool dn, .slice da dl dc], .agg #[.int .i64 b0, .bool bn, .slice ba bl bc]] W (fun e w' => ∃ z, e = .returned z ∧ IsN 0 w' z (x2 * y1) ∧ Up W w')) := fun W hW =>
  l1MulN_any B _ _ _ _ 1000 1000 W (by have := HBW.o; have := HB0.o.size; have := hW.size; omega) ((H3.o.below HB0.o).below hW) ((H2.o.below HB0.o).below hW) (by omega) (by omega)
 have HC : Hid (∀ W, Up W0 W → Calls Tryz.prog 50 #[.agg #[.int .i64 a0, .bool an, .slice aa al ac], .agg #[.int .i64 d0, .bool dn, .slice da dl dc]] W (fun e w' => e = .returned (.int .i64 (ordI x1 x2)) ∧ Up W w')) := fun W hW =>
  l1CmpN_any B _ _ _ _ W (by have := HBW.o; have := HB0.o.size; have := hW.size; omega) ((H1.o.below HB0.o).below hW).isN ((H3.o.below HB0.o).below hW).isN
 obtain ⟨k0, k1, k2, k3, k4, k5⟩ := hx0.a.c6; obtain ⟨j0, j1, j2, j3, j4, j5⟩ := hx0.b.c6; clear hW0 hx0
 go_enter Tryz.func78, Tryz.ntmps78
 go_upto_region 1 with fail
 rw [HW0.o]
 go_wp2_with fail
 refine (l2Whole_any B _ x1 y1 W0 (by have := HBW.o; have := HB0.o.size; omega) (HQA.o.below HB0.o)).mono ?_; rintro e w1 ⟨rfl, hb1⟩; have HQ1 := Hd hb1; have hx := HX.o w1 hb1; clear hb1 k0 k1 k2 k3 k4 k5 j0 j1 j2 j3 j4 j5; obtain ⟨k0, k1, k2, k3, k4, k5⟩ := hx.a.c6; obtain ⟨j0, j1, j2, j3, j4, j5⟩ := hx.b.c6; clear hx
 by_cases hy1 : y1 = 1
 ·have z : decide (y1 = 1) = true := decide_eq_true hy1; have HY1 := Hd hy1; rw [z]; clear z hy1
  go_wp2_with fail
  refine (l2Whole_any B _ x2 y2 w1 (by have := HBW.o; have := HB0.o.size; have := HQ1.o.size; omega) ((HQD.o.below HB0.o).below HQ1.o)).mono ?_; rintro e w2 ⟨rfl, hb2⟩; have HQ2 := Hd (HQ1.o.trans (hb2.mono HQ1.o.size)); have hx := HX.o w2 HQ2.o; clear hb2 k0 k1 k2 k3 k4 k5 j0 j1 j2 j3 j4 j5; obtain ⟨k0, k1, k2, k3, k4, k5⟩ := hx.a.c6; obtain ⟨j0, j1, j2, j3, j4, j5⟩ := hx.b.c6; clear hx
  by_cases hy2 : y2 = 1
  ·have z : decide (y2 = 1) = true := decide_eq_true hy2; have HE : Hid (ordI x1 x2 = ordI (x1 * y2) (x2 * y1)) := by unfold Hid; rw [HY1.o, hy2, Int.mul_one, Int.mul_one]
   rw [z]; clear z hy2
   go_wp2_with fail
   refine (HC.o w2 HQ2.o).mono ?_; rintro e w3 ⟨rfl, hb3⟩; have HB9 := Hd (HB0.o.trans ((HQ2.o.trans (hb3.mono HQ2.o.size)).mono HB0.o.size)); clear hb3 k0 k1 k2 k3 k4 k5 j0 j1 j2 j3 j4 j5
   go_wp2
   go_ret
   exact ⟨ret_int HE.o, HB9.o⟩
  have z : decide (y2 = 1) = false := decide_eq_false hy2; rw [z]; clear z hy2
  go_wp2_with fail
  go_region_held3 (fun W => W.cell? ⟨w.heap.size, 0, none⟩ = some (.int .i64 a0) ∧ W.cell? ⟨w.heap.size, 1, none⟩ = some (.bool an) ∧ W.cell? ⟨w.heap.size, 2, none⟩ = some (.slice aa al ac) ∧ W.cell? ⟨w.heap.size, 3, none⟩ = some (.int .i64 b0) ∧ W.cell? ⟨w.heap.size, 4, none⟩ = some (.bool bn) ∧ W.cell? ⟨w.heap.size, 5, none⟩ = some (.slice ba bl bc) ∧ W.cell? ⟨w.heap.size + 1, 0, none⟩ = some (.int .i64 d0) ∧ W.cell? ⟨w.heap.size + 1, 1, none⟩ = some (.bool dn) ∧ W.cell? ⟨w.heap.size + 1, 2, none⟩ = some (.slice da dl dc) ∧ W.cell? ⟨w.heap.size + 1, 3, none⟩ = some (.int .i64 e0) ∧ W.cell? ⟨w.heap.size + 1, 4, none⟩ = some (.bool en) ∧ W.cell? ⟨w.heap.size + 1, 5, none⟩ = some (.slice ea el ec)) (first
   | assumption | go_keep) (first
   | (go_at_call_of 49 (Value.int IntKind.i64 a0)
      refine (T1.o _ ?_).mono ?_
      ·exact HQ2.o.drew
      rintro e wa ⟨u, rfl, hu, hba⟩; have HU := Hd hu; have HBA : Hid (Up W0 wa) := HQ2.o.drew.trans (hba.mono HQ2.o.size); have hSa := (HX.o wa HBA.o).held; clear hu hba)
   | (go_at_call_of 49 (Value.int IntKind.i64 d0)
      refine (T2.o _ ?_).mono ?_
      ·exact HBA.o
      rintro e wb ⟨v, rfl, hv, hbb⟩; have HV := Hd hv; have HBB := Hd (HBA.o.trans (hbb.mono HBA.o.size)); have HU2 := Hd (HU.o.below hbb); have hSb := (HX.o wb HBB.o).held; clear hv hbb)
   | (go_at_call 50
      refine (l1CmpN_any 0 _ _ _ _ _ (Nat.zero_le _) HU2.o HV.o).mono ?_; rintro e wc ⟨rfl, hbc⟩; have hSc := (HX.o wc (HBB.o.trans (hbc.mono HBB.o.size))).held; have HBC := Hd (HB0.o.trans ((HBB.o.trans (hbc.mono HBB.o.size)).mono HB0.o.size)); clear hbc))
  all_goals
   go_wp2
   go_ret
   exact ⟨rfl, HBC.o⟩
 have z : decide (y1 = 1) = false := decide_eq_false hy1; rw [z]; clear z hy1
 go_wp2_with fail
 go_region_held3 (fun W => W.cell? ⟨w.heap.size, 0, none⟩ = some (.int .i64 a0) ∧ W.cell? ⟨w.heap.size, 1, none⟩ = some (.bool an) ∧ W.cell? ⟨w.heap.size, 2, none⟩ = some (.slice aa al ac) ∧ W.cell? ⟨w.heap.size, 3, none⟩ = some (.int .i64 b0) ∧ W.cell? ⟨w.heap.size, 4, none⟩ = some (.bool bn) ∧ W.cell? ⟨w.heap.size, 5, none⟩ = some (.slice ba bl bc) ∧ W.cell? ⟨w.heap.size + 1, 0, none⟩ = some (.int .i64 d0) ∧ W.cell? ⟨w.heap.size + 1, 1, none⟩ = some (.bool dn) ∧ W.cell? ⟨w.heap.size + 1, 2, none⟩ = some (.slice da dl dc) ∧ W.cell? ⟨w.heap.size + 1, 3, none⟩ = some (.int .i64 e0) ∧ W.cell? ⟨w.heap.size + 1, 4, none⟩ = some (.bool en) ∧ W.cell? ⟨w.heap.size + 1, 5, none⟩ = some (.slice ea el ec)) (first
  | assumption | go_keep) (first
  | (go_at_call_of 49 (Value.int IntKind.i64 a0)
     refine (T1.o _ ?_).mono ?_
     ·exact HQ1.o.drew
     rintro e wa ⟨u, rfl, hu, hba⟩; have HU := Hd hu; have HBA : Hid (Up W0 wa) := HQ1.o.drew.trans (hba.mono HQ1.o.size); have hSa := (HX.o wa HBA.o).held; clear hu hba)
  | (go_at_call_of 49 (Value.int IntKind.i64 d0)
     refine (T2.o _ ?_).mono ?_
     ·exact HBA.o
     rintro e wb ⟨v, rfl, hv, hbb⟩; have HV := Hd hv; have HBB := Hd (HBA.o.trans (hbb.mono HBA.o.size)); have HU2 := Hd (HU.o.below hbb); have hSb := (HX.o wb HBB.o).held; clear hv hbb)
  | (go_at_call 50
     refine (l1CmpN_any 0 _ _ _ _ _ (Nat.zero_le _) HU2.o HV.o).mono ?_; rintro e wc ⟨rfl, hbc⟩; have hSc := (HX.o wc (HBB.o.trans (hbc.mono HBB.o.size))).held; have HBC := Hd (HB0.o.trans ((HBB.o.trans (hbc.mono HBB.o.size)).mono HB0.o.size)); clear hbc))
 all_goals
  go_wp2
  go_ret
  exact ⟨rfl, HBC.o⟩
def IsResC (s t : ByteArray) (r : Int) : Prop := ∃ k m, IsCut s k ∧ IsCut t m ∧ ((∃ x1 y1 x2 y2, RatV s k x1 y1 ∧ RatV t m x2 y2 ∧ r = ordI (x1 * y2) (x2 * y1)) ∨ (¬ ((∃ x y, RatV s k x y) ∧ ∃ x y, RatV t m x y) ∧ r = -2))
theorem ratV_one {s : ByteArray} {k : Option Nat} {x y x' y' : Int} (h : RatV s k x y) (h' : RatV s k x' y') : x = x' ∧ y = y' := by
 cases k with
 | none => exact ⟨h.2.1.trans h'.2.1.symm, h.2.2.trans h'.2.2.symm⟩
 | some i => exact ⟨h.2.2.1.trans h'.2.2.1.symm, h.2.2.2.trans h'.2.2.2.symm⟩
theorem IsResC.eq {s t : ByteArray} {u v : Int} (h : IsResC s t u) (h' : IsResC s t v) : u = v := by
 obtain ⟨k, m, hk, hm, h⟩ := h; obtain ⟨k', m', hk', hm', h'⟩ := h'; obtain rfl := isCut_unique hk hk'; obtain rfl := isCut_unique hm hm'
 rcases h with ⟨x1, y1, x2, y2, h1, h2, h3⟩ | ⟨h1, h2⟩ <;> rcases h' with ⟨x1', y1', x2', y2', h1', h2', h3'⟩ | ⟨h1', h2'⟩
 ·obtain ⟨rfl, rfl⟩ := ratV_one h1 h1'; obtain ⟨rfl, rfl⟩ := ratV_one h2 h2'; rw [h3, h3']
 ·exact absurd ⟨⟨_, _, h1⟩, _, _, h2⟩ h1'
 ·exact absurd ⟨⟨_, _, h1'⟩, _, _, h2'⟩ h1
 rw [h2, h2']
theorem qn_zero {B : Nat} {w : World} {z : Value} {x y : Int} (h : IsQN B w z x y) : IsQN 0 w z x y := by
 obtain ⟨p0, pn, pa, pl, pc, q0, qn, qa, ql, qc, e, h1, h2⟩ := h; exact ⟨p0, pn, pa, pl, pc, q0, qn, qa, ql, qc, e, h1.mono (Nat.zero_le _), h2.mono (Nat.zero_le _)⟩
set_option maxRecDepth 100000 in
set_option maxHeartbeats 2000000 in
theorem specRatCmp_any (s t : ByteArray) (w : World) (hs : s.size ≤ maxLen) (ht : t.size ≤ maxLen) :
 Calls Tryz.prog 34 #[.string s, .string t] w fun e w' => ∃ r, e = .returned (.int .i64 r) ∧ IsResC s t r ∧ Up w w' := by
 go_enter Tryz.func34, Tryz.ntmps34
 go_wp2_with fail
 refine (specIsRat_any s _ hs).mono ?_; rintro e w1 ⟨b, rfl, hR1, hb1⟩; obtain ⟨k, hk, hi1⟩ := hR1; obtain ⟨m, hm⟩ := isCut_ex t; have HK := Hd hk; have HM := Hd hm; have HI1 := Hd hi1; have HB1 := Hd hb1; clear hk hm hi1 hb1
 cases b
 ·have HF : Hid (IsResC s t (-2)) := ⟨k, m, HK.o, HM.o, .inr ⟨fun h => Bool.noConfusion (HI1.o.2 h.1), rfl⟩⟩
  go_wp2
  go_ret
  exact ⟨_, rfl, HF.o, HB1.o⟩
 go_wp2_with fail
 refine (specIsRat_any t _ ht).mono ?_; rintro e w2 ⟨b, rfl, hR2, hb2⟩; obtain ⟨m', hm', hi2⟩ := hR2; obtain rfl := isCut_unique hm' HM.o; have HI2 := Hd hi2; have HB2 := Hd (HB1.o.trans (hb2.mono HB1.o.size)); clear hm' hi2 hb2
 cases b
 ·have HF : Hid (IsResC s t (-2)) := ⟨k, _, HK.o, HM.o, .inr ⟨fun h => Bool.noConfusion (HI2.o.2 h.2), rfl⟩⟩
  go_wp2
  go_ret
  exact ⟨_, rfl, HF.o, HB2.o⟩
 obtain ⟨x1, y1, hV1⟩ := HI1.o.1 (by first | exact rfl | trivial); obtain ⟨x2, y2, hV2⟩ := HI2.o.1 (by first | exact rfl | trivial); have HV1 := Hd hV1; have HV2 := Hd hV2; have HF : Hid (IsResC s t (ordI (x1 * y2) (x2 * y1))) := ⟨k, _, HK.o, HM.o, .inl ⟨x1, y1, x2, y2, hV1, hV2, rfl⟩⟩; clear hV1 hV2
 go_wp2_with fail
 refine (l2Read_any s k x1 y1 _ hs HK.o HV1.o).mono ?_; rintro e w3 ⟨z1, rfl, hz1, hb3⟩; have HZ1 := Hd hz1; have HB3 := Hd (HB2.o.trans (hb3.mono HB2.o.size)); have HL3 : Hid (w2.heap.size ≤ w3.heap.size) := hb3.size; clear hz1 hb3
 go_wp2_with fail
 refine (l2Read_any t _ x2 y2 _ ht HM.o HV2.o).mono ?_; rintro e w4 ⟨z2, rfl, hz2, hb4⟩; have HZ1' : Hid (IsQN 0 w4 z1 x1 y1) := qn_zero (HZ1.o.below hb4); have HZ2 : Hid (IsQN 0 w4 z2 x2 y2) := qn_zero hz2; have HB4 := Hd (HB3.o.trans (hb4.mono HB3.o.size)); clear hz2 hb4
 go_wp2_with fail
 refine (l2Cmp_any 0 z1 z2 x1 y1 x2 y2 _ (Nat.zero_le _) HZ1'.o HZ2.o).mono ?_; rintro e w5 ⟨rfl, hb5⟩; have HB5 := Hd (HB4.o.trans (hb5.mono HB4.o.size)); clear hb5
 go_wp2
 go_ret
 exact ⟨_, rfl, HF.o, HB5.o⟩
structure BxT (h : Nat) (W : World) (a0 : Int) (an : Bool) (aa : Option Addr) (al ac : Nat) (b0 : Int) (bn : Bool) (ba : Option Addr) (bl bc : Nat) (d0 : Int) (dn : Bool) (da : Option Addr) (dl dc : Nat) (e0 : Int) (en : Bool) (ea : Option Addr) (el ec : Nat) : Prop where
 a : Bx W h [.int .i64 a0, .bool an, .slice aa al ac, .int .i64 b0, .bool bn, .slice ba bl bc]
 b : Bx W (h + 1) [.int .i64 d0, .bool dn, .slice da dl dc, .int .i64 e0, .bool en, .slice ea el ec]
 r : Bx W (h + 1 + 1) [.int .i64 0, .bool false, .slice none 0 0, .int .i64 0, .bool false, .slice none 0 0]
theorem BxT.below {h N : Nat} {W W' : World} {a0 : Int} {an : Bool} {aa : Option Addr} {al ac : Nat} {b0 : Int} {bn : Bool} {ba : Option Addr} {bl bc : Nat} {d0 : Int} {dn : Bool} {da : Option Addr} {dl dc : Nat} {e0 : Int} {en : Bool} {ea : Option Addr} {el ec : Nat} (m : BxT h W a0 an aa al ac b0 bn ba bl bc d0 dn da dl dc e0 en ea el ec) (hN : h + 3 ≤ N) (hb : Below N W W') : BxT h W' a0 an aa al ac b0 bn ba bl bc d0 dn da dl dc e0 en ea el ec :=
 ⟨m.a.below (by omega) hb, m.b.below (by omega) hb, m.r.below (by omega) hb⟩
theorem BxT.held {h : Nat} {W : World} {a0 : Int} {an : Bool} {aa : Option Addr} {al ac : Nat} {b0 : Int} {bn : Bool} {ba : Option Addr} {bl bc : Nat} {d0 : Int} {dn : Bool} {da : Option Addr} {dl dc : Nat} {e0 : Int} {en : Bool} {ea : Option Addr} {el ec : Nat} (m : BxT h W a0 an aa al ac b0 bn ba bl bc d0 dn da dl dc e0 en ea el ec) : W.cell? ⟨h, 0, none⟩ = some (.int .i64 a0) ∧ W.cell? ⟨h, 1, none⟩ = some (.bool an) ∧ W.cell? ⟨h, 2, none⟩ = some (.slice aa al ac) ∧ W.cell? ⟨h, 3, none⟩ = some (.int .i64 b0) ∧ W.cell? ⟨h, 4, none⟩ = some (.bool bn) ∧ W.cell? ⟨h, 5, none⟩ = some (.slice ba bl bc) ∧ W.cell? ⟨h + 1, 0, none⟩ = some (.int .i64 d0) ∧ W.cell? ⟨h + 1, 1, none⟩ = some (.bool dn) ∧ W.cell? ⟨h + 1, 2, none⟩ = some (.slice da dl dc) ∧ W.cell? ⟨h + 1, 3, none⟩ = some (.int .i64 e0) ∧ W.cell? ⟨h + 1, 4, none⟩ = some (.bool en) ∧ W.cell? ⟨h + 1, 5, none⟩ = some (.slice ea el ec) :=
 ⟨m.a.cell 0, m.a.cell 1, m.a.cell 2, m.a.cell 3, m.a.cell 4, m.a.cell 5, m.b.cell 0, m.b.cell 1, m.b.cell 2, m.b.cell 3, m.b.cell 4, m.b.cell 5⟩
theorem cell_far6 {W : World} {a : Addr} {v : Value} (g : Nat) (h : W.cell? a = some v) (hg : g ≠ a.block) (u0 u1 u2 u3 u4 u5 : Value) : ((((((W.setCell ⟨g, 0, none⟩ u0).setCell ⟨g, 1, none⟩ u1).setCell ⟨g, 2, none⟩ u2).setCell ⟨g, 3, none⟩ u3).setCell ⟨g, 4, none⟩ u4).setCell ⟨g, 5, none⟩ u5).cell? a = some v := by
 rw [World.cell?_setCell_far _ _ _ _ hg, World.cell?_setCell_far _ _ _ _ hg, World.cell?_setCell_far _ _ _ _ hg, World.cell?_setCell_far _ _ _ _ hg, World.cell?_setCell_far _ _ _ _ hg, World.cell?_setCell_far _ _ _ _ hg]; exact h
theorem held_put6 {h : Nat} {W : World} {a0 : Int} {an : Bool} {aa : Option Addr} {al ac : Nat} {b0 : Int} {bn : Bool} {ba : Option Addr} {bl bc : Nat} {d0 : Int} {dn : Bool} {da : Option Addr} {dl dc : Nat} {e0 : Int} {en : Bool} {ea : Option Addr} {el ec : Nat} (m : W.cell? ⟨h, 0, none⟩ = some (.int .i64 a0) ∧ W.cell? ⟨h, 1, none⟩ = some (.bool an) ∧ W.cell? ⟨h, 2, none⟩ = some (.slice aa al ac) ∧ W.cell? ⟨h, 3, none⟩ = some (.int .i64 b0) ∧ W.cell? ⟨h, 4, none⟩ = some (.bool bn) ∧ W.cell? ⟨h, 5, none⟩ = some (.slice ba bl bc) ∧ W.cell? ⟨h + 1, 0, none⟩ = some (.int .i64 d0) ∧ W.cell? ⟨h + 1, 1, none⟩ = some (.bool dn) ∧ W.cell? ⟨h + 1, 2, none⟩ = some (.slice da dl dc) ∧ W.cell? ⟨h + 1, 3, none⟩ = some (.int .i64 e0) ∧ W.cell? ⟨h + 1, 4, none⟩ = some (.bool en) ∧ W.cell? ⟨h + 1, 5, none⟩ = some (.slice ea el ec)) (g : Nat) (h0 : g ≠ h) (h1 : g ≠ h + 1) (u0 u1 u2 u3 u4 u5 : Value) : ((((((W.setCell ⟨g, 0, none⟩ u0).setCell ⟨g, 1, none⟩ u1).setCell ⟨g, 2, none⟩ u2).setCell ⟨g, 3, none⟩ u3).setCell ⟨g, 4, none⟩ u4).setCell ⟨g, 5, none⟩ u5).cell? ⟨h, 0, none⟩ = some (.int .i64 a0) ∧ ((((((W.setCell ⟨g, 0, none⟩ u0).setCell ⟨g, 1, none⟩ u1).setCell ⟨g, 2, none⟩ u2).setCell ⟨g, 3, none⟩ u3).setCell ⟨g, 4, none⟩ u4).setCell ⟨g, 5, none⟩ u5).cell? ⟨h, 1, none⟩ = some (.bool an) ∧ ((((((W.setCell ⟨g, 0, none⟩ u0).setCell ⟨g, 1, none⟩ u1).setCell ⟨g, 2, none⟩ u2).setCell ⟨g, 3, none⟩ u3).setCell ⟨g, 4, none⟩ u4).setCell ⟨g, 5, none⟩ u5).cell? ⟨h, 2, none⟩ = some (.slice aa al ac) ∧ ((((((W.setCell ⟨g, 0, none⟩ u0).setCell ⟨g, 1, none⟩ u1).setCell ⟨g, 2, none⟩ u2).setCell ⟨g, 3, none⟩ u3).setCell ⟨g, 4, none⟩ u4).setCell ⟨g, 5, none⟩ u5).cell? ⟨h, 3, none⟩ = some (.int .i64 b0) ∧ ((((((W.setCell ⟨g, 0, none⟩ u0).setCell ⟨g, 1, none⟩ u1).setCell ⟨g, 2, none⟩ u2).setCell ⟨g, 3, none⟩ u3).setCell ⟨g, 4, none⟩ u4).setCell ⟨g, 5, none⟩ u5).cell? ⟨h, 4, none⟩ = some (.bool bn) ∧ ((((((W.setCell ⟨g, 0, none⟩ u0).setCell ⟨g, 1, none⟩ u1).setCell ⟨g, 2, none⟩ u2).setCell ⟨g, 3, none⟩ u3).setCell ⟨g, 4, none⟩ u4).setCell ⟨g, 5, none⟩ u5).cell? ⟨h, 5, none⟩ = some (.slice ba bl bc) ∧ ((((((W.setCell ⟨g, 0, none⟩ u0).setCell ⟨g, 1, none⟩ u1).setCell ⟨g, 2, none⟩ u2).setCell ⟨g, 3, none⟩ u3).setCell ⟨g, 4, none⟩ u4).setCell ⟨g, 5, none⟩ u5).cell? ⟨h + 1, 0, none⟩ = some (.int .i64 d0) ∧ ((((((W.setCell ⟨g, 0, none⟩ u0).setCell ⟨g, 1, none⟩ u1).setCell ⟨g, 2, none⟩ u2).setCell ⟨g, 3, none⟩ u3).setCell ⟨g, 4, none⟩ u4).setCell ⟨g, 5, none⟩ u5).cell? ⟨h + 1, 1, none⟩ = some (.bool dn) ∧ ((((((W.setCell ⟨g, 0, none⟩ u0).setCell ⟨g, 1, none⟩ u1).setCell ⟨g, 2, none⟩ u2).setCell ⟨g, 3, none⟩ u3).setCell ⟨g, 4, none⟩ u4).setCell ⟨g, 5, none⟩ u5).cell? ⟨h + 1, 2, none⟩ = some (.slice da dl dc) ∧ ((((((W.setCell ⟨g, 0, none⟩ u0).setCell ⟨g, 1, none⟩ u1).setCell ⟨g, 2, none⟩ u2).setCell ⟨g, 3, none⟩ u3).setCell ⟨g, 4, none⟩ u4).setCell ⟨g, 5, none⟩ u5).cell? ⟨h + 1, 3, none⟩ = some (.int .i64 e0) ∧ ((((((W.setCell ⟨g, 0, none⟩ u0).setCell ⟨g, 1, none⟩ u1).setCell ⟨g, 2, none⟩ u2).setCell ⟨g, 3, none⟩ u3).setCell ⟨g, 4, none⟩ u4).setCell ⟨g, 5, none⟩ u5).cell? ⟨h + 1, 4, none⟩ = some (.bool en) ∧ ((((((W.setCell ⟨g, 0, none⟩ u0).setCell ⟨g, 1, none⟩ u1).setCell ⟨g, 2, none⟩ u2).setCell ⟨g, 3, none⟩ u3).setCell ⟨g, 4, none⟩ u4).setCell ⟨g, 5, none⟩ u5).cell? ⟨h + 1, 5, none⟩ = some (.slice ea el ec) :=
 ⟨cell_far6 g m.1 h0 _ _ _ _ _ _, cell_far6 g m.2.1 h0 _ _ _ _ _ _, cell_far6 g m.2.2.1 h0 _ _ _ _ _ _, cell_far6 g m.2.2.2.1 h0 _ _ _ _ _ _, cell_far6 g m.2.2.2.2.1 h0 _ _ _ _ _ _, cell_far6 g m.2.2.2.2.2.1 h0 _ _ _ _ _ _, cell_far6 g m.2.2.2.2.2.2.1 h1 _ _ _ _ _ _, cell_far6 g m.2.2.2.2.2.2.2.1 h1 _ _ _ _ _ _, cell_far6 g m.2.2.2.2.2.2.2.2.1 h1 _ _ _ _ _ _, cell_far6 g m.2.2.2.2.2.2.2.2.2.1 h1 _ _ _ _ _ _, cell_far6 g m.2.2.2.2.2.2.2.2.2.2.1 h1 _ _ _ _ _ _, cell_far6 g m.2.2.2.2.2.2.2.2.2.2.2 h1 _ _ _ _ _ _⟩
theorem low_one (x y1 y2 : Int) (h1 : y1 = 1) (h2 : y2 = 1) : IsLow x (y1 * y2) x y1 := by
 refine ⟨1, by decide, by omega, by rw [h1, h2], by omega, ?_⟩; rw [h1, h2]; simp
theorem l1AddN_any (B : Nat) (za zb : Value) (x y : Int) (n m : Nat) (w : World) (hBw : B ≤ w.heap.size) (ha : NumZ B w za x n) (hb : NumZ B w zb y m) (hn : n ≤ 100000) (hm : m ≤ 100000) :
 Calls Tryz.prog 44 #[za, zb] w fun e w' => ∃ z, e = .returned z ∧ IsN 0 w' z (x + y) ∧ Up w w' := by
 obtain ⟨na, a, hza, rfl, hla⟩ := ha; obtain ⟨nb, b, hzb, rfl, hlb⟩ := hb; refine (l1Add_any B za zb na nb a b w hBw hza hzb (by omega) (by omega)).mono ?_; rintro e w' ⟨z, rfl, hz, hb⟩; exact ⟨z, rfl, hz.mono (Nat.zero_le _), hb⟩
def IsResQ (N D : Int → Int → Int → Int → Int) (ok : Int → Prop) (s t u : ByteArray) : Prop := ∃ k m, IsCut s k ∧ IsCut t m ∧ ((∃ x1 y1 x2 y2 p q, RatV s k x1 y1 ∧ RatV t m x2 y2 ∧ ok x2 ∧ IsLow (N x1 y1 x2 y2) (D x1 y1 x2 y2) p q ∧ TextR p q u) ∨ (¬ (∃ x1 y1 x2 y2, RatV s k x1 y1 ∧ RatV t m x2 y2 ∧ ok x2) ∧ u = ⟨#[]⟩))
theorem IsResQ.eq {N D : Int → Int → Int → Int → Int} {ok : Int → Prop} {s t u v : ByteArray} (h : IsResQ N D ok s t u) (h' : IsResQ N D ok s t v) : u = v := by
 obtain ⟨k, m, hk, hm, h⟩ := h; obtain ⟨k', m', hk', hm', h'⟩ := h'; obtain rfl := isCut_unique hk hk'; obtain rfl := isCut_unique hm hm'
 rcases h with ⟨x1, y1, x2, y2, p, q, h1, h2, h3, h4, h5⟩ | ⟨h1, h2⟩ <;> rcases h' with ⟨x1', y1', x2', y2', p', q', h1', h2', h3', h4', h5'⟩ | ⟨h1', h2'⟩
 ·obtain ⟨rfl, rfl⟩ := ratV_one h1 h1'; obtain ⟨rfl, rfl⟩ := ratV_one h2 h2'; obtain ⟨rfl, rfl⟩ := isLow_unique h4 h4'; exact h5.eq h5'
 ·exact absurd ⟨_, _, _, _, h1, h2, h3⟩ h1'
 ·exact absurd ⟨_, _, _, _, h1', h2', h3'⟩ h1
 rw [h2, h2']
end Go.Proofs.YtfmpapcfhoomkaaGreatDoor
