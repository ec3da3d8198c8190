import Derived.Test.YtpjnglcojamfmaaDoorDivC
import Derived.Test.YtpjnglcojamfmaaDoorDivE
import Derived.Test.YtpjnglcojamfmaaDoorSpecSum
import Derived.Test.YtpjnglcojamfmaaDoorMulZ
namespace Go.Proofs.YtpjnglcojamfmaaDoor
open Go.ChangeShapes Go.WideShapes Go.ChangeAt Go.RowKit
theorem field_neg2 (x z : Int) (y : Bool) (w : World) : (Instr.field 80 (.agg #[.int .i64 x, .bool y, .int .i64 z]) 1).run Tryd.prog w = .ok (.bool y) w := by kernel_rfl
set_option maxRecDepth 100000 in
set_option maxHeartbeats 4000000 in
theorem divided_raw (B : Nat) (s t : Bool) (va vb : Value) (a b : List Nat) (w : World) (hBw : B ≤ w.heap.size) (ha : IsL B w va a) (hb : IsL B w vb b) (hla : a.length ≤ 90000) (hlb : b.length ≤ 90000) (hta : isTrim a) (htb : isTrim b) (hne : b ≠ []) (hSP : SP w) :
    Calls Tryd.prog 35 #[.agg #[.bool s, va], .agg #[.bool t, vb]] w fun e w' => ∃ z1 z2 q r, e = .returned (.tuple #[z1, z2]) ∧ IsI B w' z1 q (a.length + 2) ∧ IsI B w' z2 r (b.length + 3) ∧ IsDiv (sg s (val a)) (sg t (val b)) q r ∧ Below w.heap.size w w' := by
  have HA : Hid (∀ W, Below w.heap.size w W → IsL B W va a) := fun W hW => ha.below hW
  have HB : Hid (∀ W, Below w.heap.size w W → IsL B W vb b) := fun W hW => hb.below hW
  obtain ⟨pa, ca, rfl, _, _, haok, _⟩ := ha
  obtain ⟨pb, cb, rfl, _, _, hbok, _⟩ := hb
  have HX := boxD_first w s pa a.length ca t pb b.length cb 33
  obtain ⟨W0, hW0⟩ : ∃ W0, ((((w.alloc (.cells #[.bool s, .slice pa a.length ca] 33)).alloc (.cells #[.bool t, .slice pb b.length cb] 33)).alloc (.cells #[.bool false, .slice none 0 0] 33)).alloc (.cells #[.bool false, .slice none 0 0] 33)) = W0 := ⟨_, rfl⟩
  have HW0 := hide hW0
  have hB0 : Below w.heap.size w W0 := by rw [← hW0]; exact below_al (below_al (below_al (below_alloc _ _) _) _) _
  have HB0 := hide hB0
  have hsz : W0.heap.size = w.heap.size + 4 := by rw [← hW0]; simp
  rw [hW0] at HX
  have HS := hide hsz
  have HBX : Hid (∀ W, Below W0.heap.size W0 W → BoxD w.heap.size W s pa a.length ca t pb b.length cb) := fun W hW => HX.below (by omega) hW
  have HF : Hid (∀ W, Below W0.heap.size W0 W → Below w.heap.size w W) := fun W hW => hB0.trans (hW.mono (by omega))
  have HSP : Hid (∀ W, Below w.heap.size w W → SP W) := fun W hW => hSP.below hW
  have HT : Hid (isTrim a ∧ isTrim b ∧ b ≠ [] ∧ B ≤ w.heap.size) := ⟨hta, htb, hne, hBw⟩
  have HOK : Hid (okL a ∧ okL b) := ⟨haok, hbok⟩
  obtain ⟨a0, a1, b0, b1, r0, r1, t0, t1, f⟩ := HX
  clear f hW0 hsz hB0 hta htb hne hBw haok hbok hSP
  have hfd := field_neg2
  go_enter Tryd.func35, Tryd.ntmps35
  go_wp2_with fail
  rw [HW0.out]
  refine (divLimbs_any B _ _ a b _ (by have := HS.out; have := HT.out; omega) (HA.out _ HB0.out) (HB.out _ HB0.out) (by omega) HT.out.1 HT.out.2.1 HT.out.2.2.1).mono ?_
  rintro e wx ⟨v, u, Q, U, rfl, hD, hbx⟩
  have HXX : Hid (Below W0.heap.size W0 wx) := hbx
  have HQX : Hid (∀ W, Below wx.heap.size wx W → IsL B W v Q) := fun W hW => hD.1.1.below hW
  have HUX : Hid (∀ W, Below wx.heap.size wx W → IsL B W u U) := fun W hW => hD.1.2.below hW
  have hUo : okL U := by obtain ⟨_, _, _, _, _, h, _⟩ := hD.1.2; exact h
  have hUl : U.length ≤ b.length := len_of_val U b hD.2.1.2 HOK.out.2 hD.2.2.2.2
  have HLN : Hid (Q.length ≤ a.length ∧ U.length ≤ b.length) := ⟨hD.2.2.1.1, hUl⟩
  have HVV : Hid (val a = val Q * val b + val U ∧ val U < val b ∧ isTrim U) := ⟨hD.2.2.2.1, hD.2.2.2.2, hD.2.1.2⟩
  obtain ⟨pv, cv, hv, _⟩ := id hD.1.1
  obtain ⟨pu, cu, hu, _⟩ := id hD.1.2
  obtain ⟨lv, hlv⟩ : ∃ lv, Q.length = lv := ⟨_, rfl⟩
  obtain ⟨lu, hlu⟩ : ∃ lu, U.length = lu := ⟨_, rfl⟩
  subst hv hu
  rw [hlv] at HQX HLN ⊢
  rw [hlu] at HUX HLN ⊢
  have HLL : Hid (Q.length = lv ∧ U.length = lu) := ⟨hlv, hlu⟩
  clear a0 a1 b0 b1 r0 r1 t0 t1 hbx hD hUl hlv hlu hUo
  cases s
  · have HDV : Hid (IsDiv (sg false (val a)) (sg t (val b)) (sg t (val Q)) (sg false (val U))) := by
      have h := isDiv_pos t _ _ _ _ HVV.out.1 HVV.out.2.1
      rw [show (false != t) = t by cases t <;> rfl] at h
      exact h
    have HLN : Hid (Q.length ≤ a.length + 2 ∧ U.length ≤ b.length + 3) := by have := HLN.out; have := HLL.out; exact ⟨by omega, by omega⟩
    obtain ⟨k0, k1, l0, l1, m0, m1, n0, n1, f, z⟩ := HBX.out wx HXX.out
    clear f z
    go_wp2_with fail
    refine (signsOf_any _ _ _ _ _ _ _ _ _ (HSP.out _ (HF.out _ HXX.out))).mono ?_
    rintro e ws ⟨rfl, hbs⟩
    have HBS : Hid (Below wx.heap.size wx ws) := hbs
    clear hbs k0 k1 l0 l1 m0 m1 n0 n1
    go_wp2_with fail
    refine (makeInteger_any B t _ Q _ (HQX.out _ HBS.out)).mono ?_
    rintro e wm ⟨v', rfl, hcut, hbm⟩
    have HBM : Hid (Below wx.heap.size wx wm) := HBS.out.trans (hbm.mono HBS.out.size)
    have HQ2 : Hid (∀ W, Below wx.heap.size wx W → IsL B W v' (trimL Q)) := fun W hW => hcut _ _ (HQX.out W hW)
    obtain ⟨pq, cq, hq, _⟩ := HQ2.out wm HBM.out
    subst hq
    clear hcut hbm
    go_wp2_with fail
    refine (makeInteger_any B false _ U _ (HUX.out _ HBM.out)).mono ?_
    rintro e wn ⟨u', rfl, hcut, hbn⟩
    have HBN : Hid (Below wx.heap.size wx wn) := HBM.out.trans (hbn.mono HBM.out.size)
    have HU2 : Hid (∀ W, Below wx.heap.size wx W → IsL B W u' (trimL U)) := fun W hW => hcut _ _ (HUX.out W hW)
    obtain ⟨pr, cr, hr, _⟩ := HU2.out wn HBN.out
    subst hr
    obtain ⟨_, _, _, _, u0, u1, w0, w1, f, z⟩ := HBX.out wn (HXX.out.trans (HBN.out.mono HXX.out.size))
    have i20 := f 2 (by omega) 0
    have i21 := f 2 (by omega) 1
    have i30 := f 3 (by omega) 0
    have i31 := f 3 (by omega) 1
    have HZ : Hid (NoInt wn (w.heap.size + 2) ∧ NoInt wn (w.heap.size + 3)) := ⟨z 2 (by omega), z 3 (by omega)⟩
    clear hcut hbn f z
    go_wp2
    have HFN : Hid (Below w.heap.size w wn) := HF.out _ (HXX.out.trans (HBN.out.mono HXX.out.size))
    refine bodyPost_ret ?_ rfl ⟨_, _, _, _, rfl, ⟨t, _, trimL Q, rfl, (HQ2.out _ HBN.out).keeps HZ.out.1 HZ.out.2 (((((Keeps.refl _ _ wn).setCell _ _ ?_).setCell _ _ ?_).setCell _ _ ?_).setCell _ _ ?_), trimL_trim _, rfl, ?_⟩, ⟨false, _, trimL U, rfl, (HU2.out _ HBN.out).keeps HZ.out.1 HZ.out.2 (((((Keeps.refl _ _ wn).setCell _ _ ?_).setCell _ _ ?_).setCell _ _ ?_).setCell _ _ ?_), trimL_trim _, rfl, ?_⟩, ?_, (((HFN.out.setCell ?_ _).setCell ?_ _).setCell ?_ _).setCell ?_ _⟩
    all_goals first
      | (simp [results, Tryd.results35, go_sem, u0, u1, w0, w1]; done)
      | (simp; omega)
      | (have := trimL_len Q; have := HLN.out; omega)
      | (have := trimL_len U; have := HLN.out; omega)
      | (rw [val_trimL, val_trimL]; exact HDV.out)
  · by_cases hU0 : lu = 0
    · subst hU0
      have HDV : Hid (IsDiv (sg true (val a)) (sg t (val b)) (sg (!t) (val Q)) (sg false (val U))) := by
        have e : U = [] := List.eq_nil_of_length_eq_zero HLL.out.2
        have h := HVV.out
        rw [e] at h ⊢
        have h2 := isDiv_zero t _ _ _ h.1 (by have := h.2.1; simp [val] at this; omega)
        rw [show (true != t) = !t by cases t <;> rfl] at h2
        exact h2
      have HLN : Hid (Q.length ≤ a.length + 2 ∧ U.length ≤ b.length + 3) := by have := HLN.out; have := HLL.out; exact ⟨by omega, by omega⟩
      obtain ⟨k0, k1, l0, l1, m0, m1, n0, n1, f, z⟩ := HBX.out wx HXX.out
      clear f z
      go_wp2_with fail
      refine (signsOf_any _ _ _ _ _ _ _ _ _ (HSP.out _ (HF.out _ HXX.out))).mono ?_
      rintro e ws ⟨rfl, hbs⟩
      have HBS : Hid (Below wx.heap.size wx ws) := hbs
      clear hbs k0 k1 l0 l1 m0 m1 n0 n1
      go_wp2_with fail
      refine (makeInteger_any B (!t) _ Q _ (HQX.out _ HBS.out)).mono ?_
      rintro e wm ⟨v', rfl, hcut, hbm⟩
      have HBM : Hid (Below wx.heap.size wx wm) := HBS.out.trans (hbm.mono HBS.out.size)
      have HQ2 : Hid (∀ W, Below wx.heap.size wx W → IsL B W v' (trimL Q)) := fun W hW => hcut _ _ (HQX.out W hW)
      obtain ⟨pq, cq, hq, _⟩ := HQ2.out wm HBM.out
      subst hq
      clear hcut hbm
      go_wp2_with fail
      refine (makeInteger_any B false _ U _ (HUX.out _ HBM.out)).mono ?_
      rintro e wn ⟨u', rfl, hcut, hbn⟩
      have HBN : Hid (Below wx.heap.size wx wn) := HBM.out.trans (hbn.mono HBM.out.size)
      have HU2 : Hid (∀ W, Below wx.heap.size wx W → IsL B W u' (trimL U)) := fun W hW => hcut _ _ (HUX.out W hW)
      obtain ⟨pr, cr, hr, _⟩ := HU2.out wn HBN.out
      subst hr
      obtain ⟨_, _, _, _, u0, u1, w0, w1, f, z⟩ := HBX.out wn (HXX.out.trans (HBN.out.mono HXX.out.size))
      have i20 := f 2 (by omega) 0
      have i21 := f 2 (by omega) 1
      have i30 := f 3 (by omega) 0
      have i31 := f 3 (by omega) 1
      have HZ : Hid (NoInt wn (w.heap.size + 2) ∧ NoInt wn (w.heap.size + 3)) := ⟨z 2 (by omega), z 3 (by omega)⟩
      clear hcut hbn f z
      go_wp2
      have HFN : Hid (Below w.heap.size w wn) := HF.out _ (HXX.out.trans (HBN.out.mono HXX.out.size))
      refine bodyPost_ret ?_ rfl ⟨_, _, _, _, rfl, ⟨(!t), _, trimL Q, rfl, (HQ2.out _ HBN.out).keeps HZ.out.1 HZ.out.2 (((((Keeps.refl _ _ wn).setCell _ _ ?_).setCell _ _ ?_).setCell _ _ ?_).setCell _ _ ?_), trimL_trim _, rfl, ?_⟩, ⟨false, _, trimL U, rfl, (HU2.out _ HBN.out).keeps HZ.out.1 HZ.out.2 (((((Keeps.refl _ _ wn).setCell _ _ ?_).setCell _ _ ?_).setCell _ _ ?_).setCell _ _ ?_), trimL_trim _, rfl, ?_⟩, ?_, (((HFN.out.setCell ?_ _).setCell ?_ _).setCell ?_ _).setCell ?_ _⟩
      all_goals first
        | (simp [results, Tryd.results35, go_sem, u0, u1, w0, w1]; done)
        | (simp; omega)
        | (have := trimL_len Q; have := HLN.out; omega)
        | (have := trimL_len U; have := HLN.out; omega)
        | (rw [val_trimL, val_trimL]; exact HDV.out)
    · have hp : 0 < lu := by omega
      have HUp : Hid (0 < val U) := by
        have e : U ≠ [] := by intro e; rw [e] at HLL; have := HLL.out.2; simp at this; omega
        exact val_pos U HVV.out.2.2 e
      obtain ⟨k0, k1, l0, l1, m0, m1, n0, n1, f, z⟩ := HBX.out wx HXX.out
      clear f z
      go_wp2_with fail
      have hone : IsL wx.heap.size (wx.alloc (.cells #[.int .u32 1] 51)) (.slice (some ⟨wx.heap.size, 0, none⟩) 1 1) [1] := isL_one _ _ 1 _ (by omega) rfl rfl (Nat.le_refl _)
      refine (addLimbs_any B _ _ Q [1] _ (HQX.out _ (below_alloc _ _)) (hone.mono (by have := HXX.out.size; have := HS.out; have := HT.out.2.2.2; omega)) (by have := HLN.out; have := HLL.out; omega) (by simp)).mono ?_
      clear hone
      rintro e wy ⟨v2, Q2, rfl, hq2, hvq, hlq, htq, hby⟩
      have HBY : Hid (Below wx.heap.size wx wy) := (below_alloc wx (.cells #[.int .u32 1] 51)).trans (hby.mono (by simp))
      have HQ2a : Hid (IsL B wy v2 Q2 ∧ val Q2 = val Q + 1 ∧ Q2.length ≤ a.length + 2) := ⟨hq2.mono (by have := HXX.out.size; have := HS.out; have := HT.out.2.2.2; simp; omega), by rw [hvq]; simp [val], by have := HLN.out; have := HLL.out; simp at hlq; omega⟩
      obtain ⟨pv2, cv2, hv2, _⟩ := id hq2
      subst hv2
      clear hq2 hvq hlq htq hby k0 k1 l0 l1 m0 m1 n0 n1
      obtain ⟨k0, k1, l0, l1, m0, m1, n0, n1, f, z⟩ := HBX.out wy (HXX.out.trans (HBY.out.mono HXX.out.size))
      clear f z
      go_wp2_with fail
      refine (subLimbs_any B _ _ b U _ (HB.out _ (HF.out _ (HXX.out.trans (HBY.out.mono HXX.out.size)))) (HUX.out _ HBY.out) HT.out.2.2.1 (by omega) (by have := HLN.out; have := HLL.out; omega) (by have := HVV.out; omega)).mono ?_
      rintro e wz ⟨u2, U2, rfl, hu2, hvu, hlu2, htu, hbz⟩
      have HZW : Hid (Below W0.heap.size W0 wz) := HXX.out.trans ((HBY.out.trans (hbz.mono HBY.out.size)).mono HXX.out.size)
      have HQX2 : Hid (∀ W, Below wz.heap.size wz W → IsL B W (.slice pv2 Q2.length cv2) Q2) := fun W hW => (HQ2a.out.1.below hbz).below hW
      have HUX2 : Hid (∀ W, Below wz.heap.size wz W → IsL B W u2 U2) := fun W hW => (hu2.mono (by have := HBY.out.size; have := HXX.out.size; have := HS.out; have := HT.out.2.2.2; omega)).below hW
      have HDV : Hid (IsDiv (sg true (val a)) (sg t (val b)) (sg (!t) (val Q2)) (sg false (val U2))) := by
        rw [HQ2a.out.2.1]
        have h2 := isDiv_neg t _ _ _ _ _ HVV.out.1 hvu HUp.out
        rw [show (true != t) = !t by cases t <;> rfl] at h2
        exact h2
      have HLN2 : Hid (Q2.length ≤ a.length + 2 ∧ U2.length ≤ b.length + 3) := ⟨HQ2a.out.2.2, by omega⟩
      obtain ⟨pu2, cu2, huu2, _⟩ := id hu2
      subst huu2
      clear hu2 hvu hlu2 htu hbz k0 k1 l0 l1 m0 m1 n0 n1
      obtain ⟨k0, k1, l0, l1, m0, m1, n0, n1, f, z⟩ := HBX.out wz HZW.out
      clear f z
      go_wp2_with fail
      refine (signsOf_any _ _ _ _ _ _ _ _ _ (HSP.out _ (HF.out _ HZW.out))).mono ?_
      rintro e ws ⟨rfl, hbs⟩
      have HBS : Hid (Below wz.heap.size wz ws) := hbs
      clear hbs k0 k1 l0 l1 m0 m1 n0 n1
      go_wp2_with fail
      refine (makeInteger_any B (!t) _ Q2 _ (HQX2.out _ HBS.out)).mono ?_
      rintro e wm ⟨v', rfl, hcut, hbm⟩
      have HBM : Hid (Below wz.heap.size wz wm) := HBS.out.trans (hbm.mono HBS.out.size)
      have HQ2 : Hid (∀ W, Below wz.heap.size wz W → IsL B W v' (trimL Q2)) := fun W hW => hcut _ _ (HQX2.out W hW)
      obtain ⟨pq, cq, hq, _⟩ := HQ2.out wm HBM.out
      subst hq
      clear hcut hbm
      go_wp2_with fail
      refine (makeInteger_any B false _ U2 _ (HUX2.out _ HBM.out)).mono ?_
      rintro e wn ⟨u', rfl, hcut, hbn⟩
      have HBN : Hid (Below wz.heap.size wz wn) := HBM.out.trans (hbn.mono HBM.out.size)
      have HU2 : Hid (∀ W, Below wz.heap.size wz W → IsL B W u' (trimL U2)) := fun W hW => hcut _ _ (HUX2.out W hW)
      obtain ⟨pr, cr, hr, _⟩ := HU2.out wn HBN.out
      subst hr
      obtain ⟨_, _, _, _, u0, u1, w0, w1, f, z⟩ := HBX.out wn (HZW.out.trans (HBN.out.mono HZW.out.size))
      have i20 := f 2 (by omega) 0
      have i21 := f 2 (by omega) 1
      have i30 := f 3 (by omega) 0
      have i31 := f 3 (by omega) 1
      have HZ : Hid (NoInt wn (w.heap.size + 2) ∧ NoInt wn (w.heap.size + 3)) := ⟨z 2 (by omega), z 3 (by omega)⟩
      clear hcut hbn f z
      go_wp2
      have HFN : Hid (Below w.heap.size w wn) := HF.out _ (HZW.out.trans (HBN.out.mono HZW.out.size))
      refine bodyPost_ret ?_ rfl ⟨_, _, _, _, rfl, ⟨(!t), _, trimL Q2, rfl, (HQ2.out _ HBN.out).keeps HZ.out.1 HZ.out.2 (((((Keeps.refl _ _ wn).setCell _ _ ?_).setCell _ _ ?_).setCell _ _ ?_).setCell _ _ ?_), trimL_trim _, rfl, ?_⟩, ⟨false, _, trimL U2, rfl, (HU2.out _ HBN.out).keeps HZ.out.1 HZ.out.2 (((((Keeps.refl _ _ wn).setCell _ _ ?_).setCell _ _ ?_).setCell _ _ ?_).setCell _ _ ?_), trimL_trim _, rfl, ?_⟩, ?_, (((HFN.out.setCell ?_ _).setCell ?_ _).setCell ?_ _).setCell ?_ _⟩
      all_goals first
        | (simp [results, Tryd.results35, go_sem, u0, u1, w0, w1]; done)
        | (simp; omega)
        | (have := trimL_len Q2; have := HLN2.out; omega)
        | (have := trimL_len U2; have := HLN2.out; omega)
        | (rw [val_trimL, val_trimL]; exact HDV.out)
end Go.Proofs.YtpjnglcojamfmaaDoor
namespace Go.Proofs.YtpjnglcojamfmaaDoor
open Go.ChangeShapes Go.WideShapes Go.ChangeAt Go.RowKit
/-- The four boxes of l1Div. -/
structure BoxQ (g : Nat) (W : World) (x : Int) (xn : Bool) (pa : Option Addr) (la ca : Nat) (y : Int) (yn : Bool) (pb : Option Addr) (lb cb : Nat) : Prop where
  a0 : W.cell? ⟨g, 0, none⟩ = some (.int .i64 x)
  a1 : W.cell? ⟨g, 1, none⟩ = some (.bool xn)
  a2 : W.cell? ⟨g, 2, none⟩ = some (.slice pa la ca)
  b0 : W.cell? ⟨g + 1, 0, none⟩ = some (.int .i64 y)
  b1 : W.cell? ⟨g + 1, 1, none⟩ = some (.bool yn)
  b2 : W.cell? ⟨g + 1, 2, none⟩ = some (.slice pb lb cb)
  r0 : W.cell? ⟨g + 2, 0, none⟩ = some (.int .i64 0)
  r1 : W.cell? ⟨g + 2, 1, none⟩ = some (.bool false)
  r2 : W.cell? ⟨g + 2, 2, none⟩ = some (.slice none 0 0)
  t0 : W.cell? ⟨g + 3, 0, none⟩ = some (.int .i64 0)
  t1 : W.cell? ⟨g + 3, 1, none⟩ = some (.bool false)
  t2 : W.cell? ⟨g + 3, 2, none⟩ = some (.slice none 0 0)
  f : ∀ k, k < 4 → ∀ i, W.frozen? ⟨g + k, i, none⟩ = false
theorem BoxQ.below {g : Nat} {W W' : World} {x : Int} {xn : Bool} {pa : Option Addr} {la ca : Nat} {y : Int} {yn : Bool} {pb : Option Addr} {lb cb : Nat} (h : BoxQ g W x xn pa la ca y yn pb lb cb) {N : Nat} (hN : g + 4 ≤ N) (hb : Below N W W') : BoxQ g W' x xn pa la ca y yn pb lb cb := by
  have q : ∀ k, k < 4 → ∀ i, W'.cell? ⟨g + k, i, none⟩ = W.cell? ⟨g + k, i, none⟩ := fun k hk i => hb.cell (p := ⟨g + k, i, none⟩) (by show g + k < N; omega)
  have f : ∀ k, k < 4 → ∀ i, W'.frozen? ⟨g + k, i, none⟩ = W.frozen? ⟨g + k, i, none⟩ := fun k hk i => hb.frozen (p := ⟨g + k, i, none⟩) (by show g + k < N; omega)
  exact ⟨(q 0 (by omega) 0).trans h.a0, (q 0 (by omega) 1).trans h.a1, (q 0 (by omega) 2).trans h.a2, (q 1 (by omega) 0).trans h.b0, (q 1 (by omega) 1).trans h.b1, (q 1 (by omega) 2).trans h.b2, (q 2 (by omega) 0).trans h.r0, (q 2 (by omega) 1).trans h.r1, (q 2 (by omega) 2).trans h.r2, (q 3 (by omega) 0).trans h.t0, (q 3 (by omega) 1).trans h.t1, (q 3 (by omega) 2).trans h.t2, fun k hk i => (f k hk i).trans (h.f k hk i)⟩
theorem boxQ_first (w : World) (x : Int) (xn : Bool) (pa : Option Addr) (la ca : Nat) (y : Int) (yn : Bool) (pb : Option Addr) (lb cb : Nat) (ty : TypeId) :
    BoxQ w.heap.size ((((w.alloc (.cells #[.int .i64 x, .bool xn, .slice pa la ca] ty)).alloc (.cells #[.int .i64 y, .bool yn, .slice pb lb cb] ty)).alloc (.cells #[.int .i64 0, .bool false, .slice none 0 0] ty)).alloc (.cells #[.int .i64 0, .bool false, .slice none 0 0] ty)) x xn pa la ca y yn pb lb cb := by
  refine ⟨?_, ?_, ?_, ?_, ?_, ?_, ?_, ?_, ?_, ?_, ?_, ?_, ?_⟩
  iterate 3 · rw [World.cell?_alloc_past _ _ _ (by simp <;> omega), World.cell?_alloc_past _ _ _ (by simp <;> omega), World.cell?_alloc_past _ _ _ (by simp), World.cell?_alloc_at _ _ _ _ rfl]; rfl
  iterate 3 · rw [World.cell?_alloc_past _ _ _ (by simp <;> omega), World.cell?_alloc_past _ _ _ (by simp <;> omega), World.cell?_alloc_at _ _ _ _ (by simp)]; rfl
  iterate 3 · rw [World.cell?_alloc_past _ _ _ (by simp <;> omega), World.cell?_alloc_at _ _ _ _ (by simp)]; rfl
  iterate 3 · rw [World.cell?_alloc_at _ _ _ _ (by simp)]; rfl
  intro k hk i
  match k, hk with
  | 0, _ => rw [World.frozen?_alloc_past _ _ _ (by simp <;> omega), World.frozen?_alloc_past _ _ _ (by simp <;> omega), World.frozen?_alloc_past _ _ _ (by simp), World.frozen?_alloc_at _ _ _ _ (by simp)]
  | 1, _ => rw [World.frozen?_alloc_past _ _ _ (by simp <;> omega), World.frozen?_alloc_past _ _ _ (by simp <;> omega), World.frozen?_alloc_at _ _ _ _ (by simp)]
  | 2, _ => rw [World.frozen?_alloc_past _ _ _ (by simp <;> omega), World.frozen?_alloc_at _ _ _ _ (by simp)]
  | 3, _ => rw [World.frozen?_alloc_at _ _ _ _ (by simp)]
theorem tdiv_facts (x y : Int) (hx1 : -1000000000000000000 < x) (hx2 : x < 1000000000000000000) (hy : y ≠ 0) :
    y * x.tdiv y + x.tmod y = x ∧ (x.tmod y).natAbs < y.natAbs ∧ (x.tdiv y).natAbs ≤ 999999999999999999 ∧ (x.tmod y ≠ 0 → (x.tdiv y).natAbs ≤ 499999999999999999) := by
  have h1 : (x.tmod y).natAbs < y.natAbs := by rw [Int.natAbs_tmod]; exact Nat.mod_lt _ (by omega)
  refine ⟨Int.mul_tdiv_add_tmod x y, h1, ?_, fun hr => ?_⟩
  · rw [Int.natAbs_tdiv]
    exact Nat.le_trans (Nat.div_le_self _ _) (by omega)
  · rw [Int.natAbs_tdiv]
    have h2 : 2 ≤ y.natAbs := by omega
    have h3 : x.natAbs / y.natAbs ≤ x.natAbs / 2 := Nat.div_le_div_left h2 (by omega)
    exact Nat.le_trans h3 (by omega)
theorem isDiv_a (x y q r : Int) (h : y * q + r = x) (hr : 0 ≤ r) (hl : r.natAbs < y.natAbs) : IsDiv x y q r := ⟨by rw [Int.mul_comm]; exact h.symm, hr, by omega⟩
theorem isDiv_b (x y q r : Int) (h : y * q + r = x) (hr : r < 0) (hl : r.natAbs < y.natAbs) (hy : 0 < y) : IsDiv x y (q - 1) (r + y) := ⟨by rw [Int.sub_mul, Int.mul_comm q]; omega, by omega, by omega⟩
theorem isDiv_c (x y q r : Int) (h : y * q + r = x) (hr : r < 0) (hl : r.natAbs < y.natAbs) (hy : y < 0) : IsDiv x y (q + 1) (r - y) := ⟨by rw [Int.add_mul, Int.mul_comm q]; omega, by omega, by omega⟩
set_option maxRecDepth 100000 in
set_option maxHeartbeats 4000000 in
theorem l1Div_small (x y : Int) (w : World) (hx1 : -1000000000000000000 < x) (hx2 : x < 1000000000000000000) (hy1 : -1000000000000000000 < y) (hy2 : y < 1000000000000000000) (hy : y ≠ 0) :
    Calls Tryd.prog 24 #[.agg #[.int .i64 x, .bool false, .slice none 0 0], .agg #[.int .i64 y, .bool false, .slice none 0 0]] w fun e w' => ∃ z1 z2 q r, e = .returned (.tuple #[z1, z2]) ∧ (IsN w.heap.size w' z1 q ∧ IsN w.heap.size w' z2 r) ∧ IsDiv x y q r ∧ Below w.heap.size w w' := by
  have HX := boxQ_first w x false none 0 0 y false none 0 0 28
  obtain ⟨W0, hW0⟩ : ∃ W0, ((((w.alloc (.cells #[.int .i64 x, .bool false, .slice none 0 0] 28)).alloc (.cells #[.int .i64 y, .bool false, .slice none 0 0] 28)).alloc (.cells #[.int .i64 0, .bool false, .slice none 0 0] 28)).alloc (.cells #[.int .i64 0, .bool false, .slice none 0 0] 28)) = W0 := ⟨_, rfl⟩
  have HW0 := hide hW0
  have HB0 : Hid (Below w.heap.size w W0) := by rw [← hW0]; exact below_al (below_al (below_al (below_alloc _ _) _) _) _
  have hsz : W0.heap.size = w.heap.size + 4 := by rw [← hW0]; simp
  rw [hW0] at HX
  have HS := hide hsz
  have HBX : Hid (∀ W, Below W0.heap.size W0 W → BoxQ w.heap.size W x false none 0 0 y false none 0 0) := fun W hW => HX.below (by omega) hW
  obtain ⟨a0, a1, a2, b0, b1, b2, r0, r1, r2, t0, t1, t2, _⟩ := HX
  clear hW0 hsz
  obtain ⟨d1, d2, d3, d4⟩ := tdiv_facts x y hx1 hx2 hy
  obtain ⟨q, hq⟩ : ∃ q, x.tdiv y = q := ⟨_, rfl⟩
  obtain ⟨r, hr⟩ : ∃ r, x.tmod y = r := ⟨_, rfl⟩
  rw [hq] at d1 d3 d4
  rw [hr] at d1 d2 d4
  have HD : Hid (y * q + r = x ∧ r.natAbs < y.natAbs) := ⟨d1, d2⟩
  have q1 : -1000000000000000000 < q := by omega
  have q2 : q < 1000000000000000000 := by omega
  have s1 : -1000000000000000000 < r := by omega
  have s2 : r < 1000000000000000000 := by omega
  have HQ4 : Hid (r ≠ 0 → q.natAbs ≤ 499999999999999999) := d4
  clear d1 d2 d3 d4
  have hcase : 0 ≤ r ∨ (r < 0 ∧ 0 < y) ∨ (r < 0 ∧ y < 0) := by omega
  rcases hcase with hc | ⟨hc, hc2⟩ | ⟨hc, hc2⟩
  all_goals
    go_enter Tryd.func24, Tryd.ntmps24
    go_wp2_with fail
    rw [HW0.out]
    refine (l1IsSmall_ex _ _ _ _ _ _).mono ?_
    rintro e wA ⟨rfl, hA⟩
    have HBA : Hid (Below W0.heap.size W0 wA) := by rw [hA]; exact below_alloc _ _
    clear hA a0 a1 a2 b0 b1 b2 r0 r1 r2 t0 t1 t2
    obtain ⟨a0, a1, a2, b0, b1, b2, r0, r1, r2, t0, t1, t2, f⟩ := HBX.out wA HBA.out
    clear f
    go_wp2_with fail
    refine (l1IsSmall_ex _ _ _ _ _ _).mono ?_
    rintro e wB ⟨rfl, hB⟩
    have HBB : Hid (Below W0.heap.size W0 wB) := by rw [hB]; exact HBA.out.alloc HBA.out.size _
    have HBF : Hid (Below w.heap.size w wB) := HB0.out.trans (HBB.out.mono (by have := HS.out; omega))
    clear hB a0 a1 a2 b0 b1 b2 r0 r1 r2 t0 t1 t2
    obtain ⟨a0, a1, a2, b0, b1, b2, r0, r1, r2, t0, t1, t2, f⟩ := HBX.out wB HBB.out
    have f20 := f 2 (by omega) 0
    have f21 := f 2 (by omega) 1
    have f22 := f 2 (by omega) 2
    have f30 := f 3 (by omega) 0
    have f31 := f 3 (by omega) 1
    have f32 := f 3 (by omega) 2
    clear f
    go_wp2
  · refine bodyPost_ret ?_ rfl ⟨_, _, q, r, rfl, ⟨isN_small _ _ q (by omega) (by omega), isN_small _ _ r (by omega) (by omega)⟩, isDiv_a x y q r HD.out.1 hc HD.out.2, (((((HBF.out.setCell ?_ _).setCell ?_ _).setCell ?_ _).setCell ?_ _).setCell ?_ _).setCell ?_ _⟩
    all_goals first
      | (simp [results, Tryd.results24, go_sem, r0, r1, r2, t0, t1, t2]; done)
      | (simp; omega)
  · go_region
    all_goals
      go_wp2
      refine bodyPost_ret ?_ rfl ⟨_, _, (q - 1), (r + y), rfl, ⟨isN_small _ _ (q - 1) (by have := HQ4.out; omega) (by have := HQ4.out; omega), isN_small _ _ (r + y) (by have := HQ4.out; omega) (by have := HQ4.out; omega)⟩, isDiv_b x y q r HD.out.1 hc HD.out.2 hc2, ((((((HBF.out.setCell ?_ _).setCell ?_ _).setCell ?_ _).setCell ?_ _).setCell ?_ _).setCell ?_ _).drew⟩
      all_goals first
        | (simp [results, Tryd.results24, go_sem, r0, r1, r2, t0, t1, t2]; done)
        | (simp; omega)
  · go_region
    all_goals
      go_wp2
      refine bodyPost_ret ?_ rfl ⟨_, _, (q + 1), (r - y), rfl, ⟨isN_small _ _ (q + 1) (by have := HQ4.out; omega) (by have := HQ4.out; omega), isN_small _ _ (r - y) (by have := HQ4.out; omega) (by have := HQ4.out; omega)⟩, isDiv_c x y q r HD.out.1 hc HD.out.2 hc2, ((((((HBF.out.setCell ?_ _).setCell ?_ _).setCell ?_ _).setCell ?_ _).setCell ?_ _).setCell ?_ _).drew⟩
      all_goals first
        | (simp [results, Tryd.results24, go_sem, r0, r1, r2, t0, t1, t2]; done)
        | (simp; omega)
end Go.Proofs.YtpjnglcojamfmaaDoor
namespace Go.Proofs.YtpjnglcojamfmaaDoor
open Go.ChangeShapes Go.WideShapes Go.ChangeAt Go.RowKit
/-- A box that holds a number of the specification. -/
structure BoxV (g : Nat) (W : World) (z0 : Int) (zn : Bool) (za : Option Addr) (zl zc : Nat) : Prop where
  lt : g < W.heap.size
  c0 : W.cell? ⟨g, 0, none⟩ = some (.int .i64 z0)
  c1 : W.cell? ⟨g, 1, none⟩ = some (.bool zn)
  c2 : W.cell? ⟨g, 2, none⟩ = some (.slice za zl zc)
  f : ∀ i, W.frozen? ⟨g, i, none⟩ = false
  n : NoInt W g
theorem BoxV.below {g N : Nat} {W W' : World} {z0 : Int} {zn : Bool} {za : Option Addr} {zl zc : Nat} (h : BoxV g W z0 zn za zl zc) (hN : g < N) (hb : Below N W W') : BoxV g W' z0 zn za zl zc :=
  ⟨Nat.lt_of_lt_of_le h.lt hb.size, (hb.cell (p := ⟨g, 0, none⟩) hN).trans h.c0, (hb.cell (p := ⟨g, 1, none⟩) hN).trans h.c1, (hb.cell (p := ⟨g, 2, none⟩) hN).trans h.c2, fun i => (hb.frozen (p := ⟨g, i, none⟩) hN).trans (h.f i), fun i x e => h.n i x ((hb.cell (p := ⟨g, i, none⟩) hN).symm.trans e)⟩
theorem key3 (p q r : Value) (i : Nat) (x : Int) (hp : ∀ x, p ≠ .int .u32 x) (hq : ∀ x, q ≠ .int .u32 x) (hr : ∀ x, r ≠ .int .u32 x) : (#[p, q, r] : Array Value)[i]? ≠ some (.int .u32 x) := by
  match i with
  | 0 => simpa using hp x
  | 1 => simpa using hq x
  | 2 => simpa using hr x
  | i + 3 => simp
/-- A box that has just been laid. -/
theorem boxV_new (w : World) (z0 : Int) (zn : Bool) (za : Option Addr) (zl zc : Nat) (ty : TypeId) : BoxV w.heap.size (w.alloc (.cells #[.int .i64 z0, .bool zn, .slice za zl zc] ty)) z0 zn za zl zc := by
  refine ⟨by simp, ?_, ?_, ?_, fun i => ?_, fun i x => ?_⟩
  · rw [World.cell?_alloc_at _ _ _ _ rfl]; rfl
  · rw [World.cell?_alloc_at _ _ _ _ rfl]; rfl
  · rw [World.cell?_alloc_at _ _ _ _ rfl]; rfl
  · rw [World.frozen?_alloc_at _ _ _ _ rfl]
  · rw [World.cell?_alloc_at _ _ _ _ rfl]
    exact key3 _ _ _ i x (by simp) (by simp) (by simp)
theorem boxV_new' (w : World) (g : Nat) (hg : w.heap.size = g) (z0 : Int) (zn : Bool) (za : Option Addr) (zl zc : Nat) (ty : TypeId) : BoxV g (w.alloc (.cells #[.int .i64 z0, .bool zn, .slice za zl zc] ty)) z0 zn za zl zc := by
  subst hg
  exact boxV_new w z0 zn za zl zc ty
theorem BoxV.alloc {g : Nat} {W : World} {z0 : Int} {zn : Bool} {za : Option Addr} {zl zc : Nat} (h : BoxV g W z0 zn za zl zc) (o : Obj) : BoxV g (W.alloc o) z0 zn za zl zc := h.below h.lt (below_alloc W o)
theorem BoxV.drew {g : Nat} {W : World} {z0 : Int} {zn : Bool} {za : Option Addr} {zl zc : Nat} (h : BoxV g W z0 zn za zl zc) : BoxV g W.drew z0 zn za zl zc := h.below h.lt (Below.refl _ W).drew
/-- A box whose three cells are written. -/
theorem BoxV.put {g : Nat} {W : World} {z0 : Int} {zn : Bool} {za : Option Addr} {zl zc : Nat} (h : BoxV g W z0 zn za zl zc) (y0 : Int) (yn : Bool) (ya : Option Addr) (yl yc : Nat) :
    BoxV g (((W.setCell ⟨g, 0, none⟩ (.int .i64 y0)).setCell ⟨g, 1, none⟩ (.bool yn)).setCell ⟨g, 2, none⟩ (.slice ya yl yc)) y0 yn ya yl yc := by
  obtain ⟨lt, c0, c1, c2, f, n⟩ := h
  refine ⟨by simpa using lt, by simp [go_sem, c0], by simp [go_sem, c1], by simp [go_sem, c2], fun i => by have := f i; simp [go_sem, this], fun i x => ?_⟩
  by_cases i0 : i = 0
  · subst i0; simp [go_sem, c0]
  · by_cases i1 : i = 1
    · subst i1; simp [go_sem, c1]
    · by_cases i2 : i = 2
      · subst i2; simp [go_sem, c2]
      · have e : (((W.setCell ⟨g, 0, none⟩ (.int .i64 y0)).setCell ⟨g, 1, none⟩ (.bool yn)).setCell ⟨g, 2, none⟩ (.slice ya yl yc)).cell? ⟨g, i, none⟩ = W.cell? ⟨g, i, none⟩ := by
          have e0 : (0 : Nat) ≠ i := by omega
          have e1 : (1 : Nat) ≠ i := by omega
          have e2 : (2 : Nat) ≠ i := by omega
          simp [go_sem, *]
        rw [e]
        exact n i x
/-- Another box, where one is written. -/
theorem BoxV.other {g h : Nat} {W : World} {z0 : Int} {zn : Bool} {za : Option Addr} {zl zc : Nat} (hb : BoxV g W z0 zn za zl zc) (hne : g ≠ h) {W' : World} (k : Keeps h h W W') : BoxV g W' z0 zn za zl zc := by
  have q : ∀ i, W'.cell? ⟨g, i, none⟩ = W.cell? ⟨g, i, none⟩ := fun i => World.cell?_of_block (k.2 g hne hne)
  have f : ∀ i, W'.frozen? ⟨g, i, none⟩ = W.frozen? ⟨g, i, none⟩ := fun i => World.frozen?_of_block (k.2 g hne hne)
  exact ⟨Nat.lt_of_lt_of_le hb.lt k.1, (q 0).trans hb.c0, (q 1).trans hb.c1, (q 2).trans hb.c2, fun i => (f i).trans (hb.f i), fun i x e => hb.n i x ((q i).symm.trans e)⟩
theorem IsN.keeps {B : Nat} {w W : World} {z : Value} {x : Int} {g h : Nat} (hl : IsN B w z x) (n1 : NoInt w g) (n2 : NoInt w h) (k : Keeps g h w W) : IsN B W z x := by
  obtain ⟨neg, t, ⟨hok, htr, hz⟩, hx⟩ := hl
  refine ⟨neg, t, ⟨hok, htr, ?_⟩, hx⟩
  rcases hz with ⟨h2, v, hv, hL⟩ | hz
  · exact .inl ⟨h2, v, hv, hL.keeps n1 n2 k⟩
  · exact .inr hz
theorem BoxQ.far {g : Nat} {W : World} {x : Int} {xn : Bool} {pa : Option Addr} {la ca : Nat} {y : Int} {yn : Bool} {pb : Option Addr} {lb cb : Nat} (h : BoxQ g W x xn pa la ca y yn pb lb cb) (p : Addr) (hp : g + 4 ≤ p.block) (u : Value) : BoxQ g (W.setCell p u) x xn pa la ca y yn pb lb cb :=
  h.below (N := g + 4) (Nat.le_refl _) ((Below.refl _ W).setCell hp u)
theorem Keeps.three (w : World) (g : Nat) (u0 u1 u2 : Value) : Keeps g g w (((w.setCell ⟨g, 0, none⟩ u0).setCell ⟨g, 1, none⟩ u1).setCell ⟨g, 2, none⟩ u2) := by
  have h0 : Keeps g g w (w.setCell ⟨g, 0, none⟩ u0) := (Keeps.refl g g w).setCell ⟨g, 0, none⟩ u0 (Or.inl rfl)
  have h1 : Keeps g g w ((w.setCell ⟨g, 0, none⟩ u0).setCell ⟨g, 1, none⟩ u1) := h0.setCell ⟨g, 1, none⟩ u1 (Or.inl rfl)
  exact h1.setCell ⟨g, 2, none⟩ u2 (Or.inl rfl)
theorem IsN.drew {B : Nat} {w : World} {z : Value} {x : Int} (h : IsN B w z x) : IsN B w.drew z x := h.below (Below.refl _ w).drew
theorem zero_of_isZ {B : Nat} {w : World} {y0 : Int} {yn : Bool} {ya : Option Addr} {yl yc : Nat} {neg : Bool} {t : List Nat} (h : IsZ B w (.agg #[.int .i64 y0, .bool yn, .slice ya yl yc]) neg t) : (((yl : Int) == 0) && (y0 == 0)) = decide (val t = 0) := by
  obtain ⟨hok, htr, h⟩ := h
  rcases h with ⟨h2, v, hv, ⟨p, c, rfl, _⟩⟩ | ⟨h2, hv⟩
  · simp only [Value.agg.injEq, Array.mk.injEq, List.cons.injEq, Value.int.injEq, true_and, Value.bool.injEq, Value.slice.injEq, and_true] at hv
    obtain ⟨_, _, _, hl, _⟩ := hv
    have hne : t ≠ [] := by intro e; rw [e] at h2; simp at h2
    have hp := val_pos t htr hne
    have e1 : ((yl : Int) == 0) = false := by rw [beq_eq_false_iff_ne]; omega
    have e2 : decide (val t = 0) = false := by rw [decide_eq_false_iff_not]; omega
    rw [e1, e2]; rfl
  · simp only [Value.agg.injEq, Array.mk.injEq, List.cons.injEq, Value.int.injEq, true_and, Value.bool.injEq, Value.slice.injEq, and_true] at hv
    obtain ⟨rfl, _, _, rfl, _⟩ := hv
    by_cases h0 : val t = 0
    · rw [h0]; cases neg <;> simp [sg]
    · have e2 : decide (val t = 0) = false := by rw [decide_eq_false_iff_not]; exact h0
      rw [e2]
      cases neg <;> simp [sg] <;> omega
end Go.Proofs.YtpjnglcojamfmaaDoor
