import Derived.Test.YtpjnglcojamfmaaDoorAddGH
import Derived.Test.YtpjnglcojamfmaaDoorM8
namespace Go.Proofs.YtpjnglcojamfmaaDoor
open Go.ChangeShapes Go.WideShapes Go.ChangeAt Go.RowKit
theorem IsZ.form2 {B : Nat} {w : World} {z : Value} {na : Bool} {a : List Nat} (h : IsZ B w z na a) : ∃ x xn p l c, z = .agg #[.int .i64 x, .bool xn, .slice p l c] ∧ ngZ x xn l = negOf na a ∧ (l = 0 → a.length ≤ 2 ∧ z = .agg #[.int .i64 (sg na (val a)), .bool false, .slice none 0 0]) := by
  obtain ⟨h1, h2, h3⟩ := h
  rcases h3 with ⟨h3, v, rfl, p, c, rfl, _⟩ | ⟨h3, rfl⟩
  · refine ⟨_, _, _, _, _, rfl, ?_, fun e => by omega⟩
    unfold ngZ negOf
    have : 0 < a.length := by omega
    simp [this]
  · exact ⟨_, _, _, _, _, rfl, (negOf_small na a h3 h1 h2).symm, fun _ => ⟨h3, rfl⟩⟩
theorem l1Add_any (B : Nat) (za zb : Value) (na nb : Bool) (a b : List Nat) (w : World) (hBw : B ≤ w.heap.size) (hza : IsZ B w za na a) (hzb : IsZ B w zb nb b) (hla : a.length ≤ 1000000) (hlb : b.length ≤ 1000000) :
    Calls Tryd.prog 39 #[za, zb] w fun e w' => ∃ z, e = .returned z ∧ IsN w.heap.size w' z (sg na (val a) + sg nb (val b)) ∧ Below w.heap.size w w' := by
  have hoa := hza.1; have hob := hzb.1
  obtain ⟨x, xn, pa, la, ca, rfl, fa, ga⟩ := hza.form2
  obtain ⟨y, yn, pb, lb, cb, rfl, fb, gb⟩ := hzb.form2
  by_cases h0 : la = 0 ∧ lb = 0
  · have g1 := ga h0.1
    have g2 := gb h0.2
    rw [g1.2, g2.2]
    have l1 := sg_lt na a hoa g1.1
    have l2 := sg_lt nb b hob g2.1
    exact l1Add_small _ _ w l1.1 l1.2 l2.1 l2.2
  have hz : ((la : Int) == 0) = false ∨ (((la : Int) == 0) = true ∧ ((lb : Int) == 0) = false) := by
    by_cases h : la = 0
    · exact .inr ⟨by rw [beq_iff_eq]; omega, by rw [beq_eq_false_iff_ne]; omega⟩
    · exact .inl (by rw [beq_eq_false_iff_ne]; omega)
  rw [← sg_negOf na a, ← sg_negOf nb b]
  by_cases hs : negOf nb b = negOf na a
  · rw [hs] at fb ⊢
    exact l1Add_same B x y xn yn pa la ca pb lb cb na nb a b w hBw hz hza hzb _ fa fb hla hlb
  · have hs' : negOf nb b = !negOf na a := by
      revert hs; cases negOf nb b <;> cases negOf na a <;> simp
    rw [hs'] at fb ⊢
    by_cases hc : 0 ≤ cmpL a b
    · exact l1Add_ge B x y xn yn pa la ca pb lb cb na nb a b w hBw hz hza hzb _ fa fb hla hlb hc
    · exact l1Add_lt B x y xn yn pa la ca pb lb cb na nb a b w hBw hz hza hzb _ fa fb hla hlb (by omega)
set_option maxRecDepth 100000 in
set_option maxHeartbeats 1000000 in
theorem l1Sub_any (B : Nat) (za zb : Value) (na nb : Bool) (a b : List Nat) (w : World) (hBw : B ≤ w.heap.size) (hza : IsZ B w za na a) (hzb : IsZ B w zb nb b) (hla : a.length ≤ 1000000) (hlb : b.length ≤ 1000000) :
    Calls Tryd.prog 38 #[za, zb] w fun e w' => ∃ z, e = .returned z ∧ IsN w.heap.size w' z (sg na (val a) - sg nb (val b)) ∧ Below w.heap.size w w' := by
  have hza' := hza
  have hzb' := hzb
  obtain ⟨x, xn, pa, la, ca, rfl⟩ := hza.shape
  obtain ⟨y, yn, pb, lb, cb, rfl⟩ := hzb.shape
  have HLA : Hid (a.length ≤ 1000000 ∧ b.length ≤ 1000000) := ⟨hla, hlb⟩
  have HX := boxes_first w x xn pa la ca y yn pb lb cb 28
  obtain ⟨W0, hW0⟩ : ∃ W0, (((w.alloc (.cells #[.int .i64 x, .bool xn, .slice pa la ca] 28)).alloc (.cells #[.int .i64 y, .bool yn, .slice pb lb cb] 28)).alloc (.cells #[.int .i64 0, .bool false, .slice none 0 0] 28)) = W0 := ⟨_, rfl⟩
  have HW0 := hide hW0
  have hB0 : Below w.heap.size w W0 := by rw [← hW0]; exact below_al (below_al (below_alloc _ _) _) _
  have HB0 := hide hB0
  have hsz : W0.heap.size = w.heap.size + 3 := by rw [← hW0]; simp
  rw [hW0] at HX
  have HS := hide hsz
  have HBW := hide hBw
  have HBX : Hid (∀ W, Below W0.heap.size W0 W → Boxes w.heap.size W x xn pa la ca y yn pb lb cb) := fun W hW => HX.below (by omega) hW
  have HZA : Hid (∀ W, Below W0.heap.size W0 W → IsZ B W (.agg #[.int .i64 x, .bool xn, .slice pa la ca]) na a) := fun W hW => (hza.below hB0).below hW
  have HZB : Hid (∀ W, Below W0.heap.size W0 W → IsZ B W (.agg #[.int .i64 y, .bool yn, .slice pb lb cb]) nb b) := fun W hW => (hzb.below hB0).below hW
  have HVV : Hid (sg na (val a) - sg nb (val b) = sg na (val a) + sg (!nb) (val b)) := by
    show sg na (val a) - sg nb (val b) = sg na (val a) + sg (!nb) (val b)
    rw [sg_not]; omega
  rw [HVV.out]
  obtain ⟨a0, a1, a2, b0, b1, b2, r0, r1, r2, f0, f1, f2⟩ := HX
  clear hW0 hsz hza hzb hza' hzb' hB0 hBw hla hlb HVV
  go_enter Tryd.func38, Tryd.ntmps38
  go_wp2_with fail
  rw [HW0.out]
  go_region_with (first
    | (go_at_call 32; refine (l1Minus_any B _ nb b _ (HZB.out _ ?_)).mono ?_
       · exact (Below.refl _ _).drew
       rintro e wm ⟨zm, rfl, hzm, hbm⟩
       have HBM : Hid (Below W0.heap.size W0 wm) := (Below.refl _ W0).drew.trans hbm
       have HZM : Hid (IsZ B wm zm (!nb) b) := hzm
       obtain ⟨c0, c1, c2, d0, d1, d2, s0, s1, s2, g0, g1, g2⟩ := HBX.out wm HBM.out
       clear hzm hbm)
    | (go_at_call 39; refine (l1Add_any B _ _ na (!nb) a b _ ?_ (HZA.out _ HBM.out) HZM.out HLA.out.1 HLA.out.2).mono ?_
       · have := HBM.out.size; have := HS.out; have := HBW.out; omega
       rintro e we ⟨z, rfl, hN, hbe⟩
       have HN : Hid (IsN (w.heap.size + 3) we z (sg na (val a) + sg (!nb) (val b))) := hN.mono (by have := HBM.out.size; have := HS.out; omega)
       have HEE : Hid (Below W0.heap.size W0 we) := HBM.out.trans (hbe.mono HBM.out.size)
       have HBE : Hid (Below w.heap.size w we) := HB0.out.trans (HEE.out.mono (by have := HS.out; omega))
       obtain ⟨c0, c1, c2, d0, d1, d2, s0, s1, s2, g0, g1, g2⟩ := HBX.out we HEE.out
       obtain ⟨z0, zn, za, zl, zc, hzz⟩ := hN.shape
       subst hzz
       clear hbe hN))
  all_goals
    try simp only [List.getElem_toArray, List.getElem_cons_succ, List.getElem_cons_zero, Act.put, List.setIfInBounds_toArray, List.set_cons_succ, List.set_cons_zero]
    go_wp2
    refine bodyPost_ret ?_ rfl ⟨_, rfl, (((HN.out.setCell _ _ (by simp)).setCell _ _ (by simp)).setCell _ _ (by simp)).mono (by omega), ((HBE.out.setCell (by simp; omega) _).setCell (by simp; omega) _).setCell (by simp; omega) _⟩
    simp [results, Tryd.results38, go_sem, s0, s1, s2]
/-- A text's number. -/
def numT (s : ByteArray) : Int := sg (isNeg s) (val (lim s))
/-- The text of a number. -/
def IsText (x : Int) (u : ByteArray) : Prop := ∃ neg t, okL t ∧ isTrim t ∧ sg neg (val t) = x ∧ u = textT (negOf neg t) t
theorem IsText.eq {x : Int} {u v : ByteArray} (hu : IsText x u) (hv : IsText x v) : u = v := by
  obtain ⟨n, t, h1, h2, h3, rfl⟩ := hu
  obtain ⟨m, r, k1, k2, k3, rfl⟩ := hv
  have hval : val t = val r := by
    have h := h3.trans k3.symm
    cases n <;> cases m <;> simp [sg] at h <;> omega
  obtain rfl := val_inj t r h1 k1 h2 k2 hval
  have hn : negOf n t = negOf m t := by
    by_cases h : t = []
    · subst h; simp [negOf]
    · have hp := val_pos t h2 h
      have h := h3.trans k3.symm
      cases n <;> cases m <;> simp [sg] at h <;> first | rfl | omega
  rw [hn]
def IsRes (f : Int → Int → Int) (s t u : ByteArray) : Prop := if isIntB s = true ∧ isIntB t = true then IsText (f (numT s) (numT t)) u else u = strB []
theorem lim_len (s : ByteArray) (h : isIntB s = true) : (lim s).length ≤ 300 := by
  have h1 : (dgs s).size ≤ 2500 := by
    by_cases h2 : 2500 < (dgs s).size
    · rw [isInt_long s _ rfl h2] at h; cases h
    · omega
  have h3 := trimL_len (chunks (dgs s).data.toList)
  have h4 : (chunks (dgs s).data.toList).length = cnt (dgs s).data.toList.length := by simp [chunks]
  have h5 : (dgs s).data.toList.length = (dgs s).size := by simp
  unfold lim
  rw [h4, h5] at h3
  have h6 : cnt (dgs s).size ≤ 300 := by unfold cnt; omega
  omega
end Go.Proofs.YtpjnglcojamfmaaDoor
