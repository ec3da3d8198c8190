import Derived.Test.YtpjnglcojamfmaaDoorDivF
import Derived.Deep.DeepCutAuto
namespace Go.Proofs.YtpjnglcojamfmaaDoor
open Go.ChangeShapes Go.WideShapes Go.ChangeAt Go.RowKit
theorem l1Make_at (B : Nat) (neg : Bool) (v : Value) (l : List Nat) (w W : World) (h : IsL B w v l) (hb : Below w.heap.size w W) :
    Calls Tryd.prog 21 #[.bool neg, v] W fun e w' => ∃ z, e = .returned z ∧ IsZ B w' z neg (trimL l) ∧ Below w.heap.size w w' ∧ Below W.heap.size W w' := by
  refine (l1Make_any B neg v l W (h.below hb)).mono ?_
  rintro e we ⟨z, rfl, hmk, hbe⟩
  exact ⟨z, rfl, (hmk _ _ (h.below hb)).below hbe, hb.trans (hbe.mono hb.size), hbe⟩
set_option maxRecDepth 100000 in
set_option maxHeartbeats 40000000 in
theorem l1Div_big (B : Nat) (x y : Int) (xn yn : Bool) (pa : Option Addr) (la ca : Nat) (pb : Option Addr) (lb cb : Nat) (na nb : Bool) (a b : List Nat) (w : World) (hBw : B ≤ w.heap.size) (hz : ((la : Int) == 0) = false ∨ ((la : Int) == 0) = true ∧ ((lb : Int) == 0) = false)
    (hza : IsZ B w (.agg #[.int .i64 x, .bool xn, .slice pa la ca]) na a) (hzb : IsZ B w (.agg #[.int .i64 y, .bool yn, .slice pb lb cb]) nb b) (s t : Bool) (ha : ngZ x xn la = s) (hb : ngZ y yn lb = t) (hla : a.length ≤ 100000) (hlb : b.length ≤ 100000) (hne : b ≠ []) :
    Calls Tryd.prog 24 #[.agg #[.int .i64 x, .bool xn, .slice pa la ca], .agg #[.int .i64 y, .bool yn, .slice pb lb cb]] w fun e w' => ∃ z1 z2 q r, e = .returned (.tuple #[z1, z2]) ∧ (IsN w.heap.size w' z1 q ∧ IsN w.heap.size w' z2 r) ∧ IsDiv (sg s (val a)) (sg t (val b)) q r ∧ Below w.heap.size w w' := by
  have HNA : Hid (ngZ x xn la = s) := ha
  have HNB : Hid (ngZ y yn lb = t) := hb
  have HLA : Hid (a.length ≤ 100000 ∧ b.length ≤ 100000 ∧ b ≠ [] ∧ isTrim b) := ⟨hla, hlb, hne, hzb.2.1⟩
  have HOKB : Hid (okL b) := hzb.1
  have HOKA : Hid (okL a) := hza.1
  have HX := boxQ_first w x xn pa la ca y yn pb lb cb 28
  obtain ⟨W0, hW0⟩ : ∃ W0, ((((w.alloc (.cells #[.int .i64 x, .bool xn, .slice pa la ca] 28)).alloc (.cells #[.int .i64 y, .bool yn, .slice pb lb cb] 28)).alloc (.cells #[.int .i64 0, .bool false, .slice none 0 0] 28)).alloc (.cells #[.int .i64 0, .bool false, .slice none 0 0] 28)) = W0 := ⟨_, rfl⟩
  have HW0 := hide hW0
  have hB0 : Below w.heap.size w W0 := by rw [← hW0]; exact below_al (below_al (below_al (below_alloc _ _) _) _) _
  have HB0 := hide hB0
  have hsz : W0.heap.size = w.heap.size + 4 := by rw [← hW0]; simp
  rw [hW0] at HX
  have HS := hide hsz
  have HBW : Hid (B ≤ w.heap.size) := hBw
  have HBX : Hid (∀ W, Below W0.heap.size W0 W → BoxQ w.heap.size W x xn pa la ca y yn pb lb cb) := fun W hW => HX.below (by omega) hW
  have HF : Hid (∀ W, Below W0.heap.size W0 W → Below w.heap.size w W) := fun W hW => hB0.trans (hW.mono (by omega))
  have HZA : Hid (∀ W, Below W0.heap.size W0 W → IsZ B W (.agg #[.int .i64 x, .bool xn, .slice pa la ca]) na a) := fun W hW => (hza.below hB0).below hW
  have HZB : Hid (∀ W, Below W0.heap.size W0 W → IsZ B W (.agg #[.int .i64 y, .bool yn, .slice pb lb cb]) nb b) := fun W hW => (hzb.below hB0).below hW
  obtain ⟨a0, a1, a2, b0, b1, b2, r0, r1, r2, t0, t1, t2, f⟩ := HX
  clear f hW0 hsz ha hb hza hzb hB0 hBw hne
  go_enter Tryd.func24, Tryd.ntmps24
  go_wp2_with fail
  rw [HW0.out]
  refine (l1IsSmall_ex _ _ _ _ _ _).mono ?_
  rintro e wA ⟨rfl, hA⟩
  have HBA : Hid (Below W0.heap.size W0 wA) := by rw [hA]; exact below_alloc _ _
  clear hA a0 a1 a2 b0 b1 b2 r0 r1 r2 t0 t1 t2
  obtain ⟨a0, a1, a2, b0, b1, b2, r0, r1, r2, t0, t1, t2, f⟩ := HBX.out wA HBA.out
  clear f
  have HGO : Hid (∃ W1, Below W0.heap.size W0 W1 ∧ ((((la : Int) == 0) = false ∧ wA = W1) ∨ (((la : Int) == 0) = true ∧ ((lb : Int) == 0) = false ∧ wA.alloc (.cells #[.int .i64 y, .bool yn, .slice pb lb cb] 28) = W1))) := by
    rcases hz with h | ⟨h, h'⟩
    · exact ⟨_, HBA.out, .inl ⟨h, rfl⟩⟩
    · exact ⟨_, HBA.out.alloc HBA.out.size _, .inr ⟨h, h', rfl⟩⟩
  obtain ⟨W1, hBW1, hz1⟩ := HGO.out
  have HBW1 : Hid (Below W0.heap.size W0 W1) := hBW1
  clear hz HGO hBW1
  rcases hz1 with ⟨hz, hW1⟩ | ⟨hz, hz', hW1⟩
  all_goals
    have HW1 := hide hW1
    clear hW1
    rw [hz]
    go_upto_region 9 with (go_at_call 13; refine (l1IsSmall_ex _ _ _ _ _ _).mono ?_; rintro e w' ⟨rfl, rfl⟩; try rw [hz'])
    rw [HW1.out]
    clear a0 a1 a2 b0 b1 b2 r0 r1 r2 t0 t1 t2
    obtain ⟨a0, a1, a2, b0, b1, b2, r0, r1, r2, t0, t1, t2, f⟩ := HBX.out W1 HBW1.out
    clear f
    go_cut [8, 9] (fun s8 s9 wx => ∃ (pv : Option Addr) (lv cv : Nat) (pu : Option Addr) (lu cu : Nat) (Q U : List Nat), s8 = .slice pv lv cv ∧ s9 = .slice pu lu cu ∧ (IsL (w.heap.size + 4) wx (.slice pv lv cv) Q ∧ IsL (w.heap.size + 4) wx (.slice pu lu cu) U) ∧ val a = val Q * val b + val U ∧ val U < val b ∧ Below W0.heap.size W0 wx)
    case first =>
      go_region_with (first
        | (go_at_call_of 22 (Value.int IntKind.i64 x); refine (l1Limbs_two B _ na a _ (HZA.out _ HBW1.out.drew) (by have := HBW1.out.size; have := HS.out; have := HBW.out; show B ≤ W1.heap.size; omega)).mono ?_
           rintro e wa ⟨va, rfl, hva, hvn, hba⟩
           have HVA : Hid (IsL B wa va a ∧ (a = [] → va = .slice none 0 0)) := ⟨hva, hvn⟩
           have HBa : Hid (Below W0.heap.size W0 wa) := HBW1.out.drew.trans (hba.mono HBW1.out.size)
           obtain ⟨c0, c1, c2, d0, d1, d2, _, _, _, _, _, _, f⟩ := HBX.out wa HBa.out
           obtain ⟨q1, k1, e1, _⟩ := id hva
           subst e1
           clear hva hvn hba f)
        | (go_at_call_of 22 (Value.int IntKind.i64 y); refine (l1Limbs_two B _ nb b _ (HZB.out _ HBa.out) (by have := HBa.out.size; have := HS.out; have := HBW.out; omega)).mono ?_
           rintro e wb ⟨vb, rfl, hvb, _, hbb⟩
           have HVB : Hid (IsL B wb vb b) := hvb
           have HVA2 : Hid (IsL B wb (.slice q1 a.length k1) a) := HVA.out.1.below hbb
           have HBb : Hid (Below W0.heap.size W0 wb) := HBa.out.trans (hbb.mono HBa.out.size)
           obtain ⟨q2, k2, e2, _⟩ := id hvb
           subst e2
           clear hvb hbb)
        | (go_at_call 36; refine (l1DivD_any B _ _ a b _ (by have := HBb.out.size; have := HS.out; have := HBW.out; omega) HLA.out.1 HVA2.out HVA.out.2 HVB.out HLA.out.2.1 HLA.out.2.2.2 HLA.out.2.2.1).mono ?_
           rintro e wd ⟨v, u, Q, U, rfl, ⟨hv, hu⟩, hval, hlt, hbd⟩
           have HQU : Hid (IsL (w.heap.size + 4) wd v Q ∧ IsL (w.heap.size + 4) wd u U) := ⟨hv.mono (by have := HBb.out.size; have := HS.out; omega), hu.mono (by have := HBb.out.size; have := HS.out; omega)⟩
           have HVL : Hid (val a = val Q * val b + val U ∧ val U < val b ∧ Below W0.heap.size W0 wd) := ⟨hval, hlt, HBb.out.trans (hbd.mono HBb.out.size)⟩
           obtain ⟨pv, cv, ev, _⟩ := id hv
           obtain ⟨pu, cu, eu, _⟩ := id hu
           subst ev eu
           clear hv hu hval hlt hbd))
      all_goals
        go_wp2_with fail
        go_meet
        exact ⟨_, _, _, _, _, _, Q, U, rfl, rfl, HQU.out, HVL.out.1, HVL.out.2.1, HVL.out.2.2⟩
    case rest =>
      obtain ⟨pv, lv, cv, pu, lu, cu, Q, U, rfl, rfl, hqu, hval, hlt, hbx⟩ := hcut
      have HQU : Hid (∀ W, Below wc.heap.size wc W → IsL (w.heap.size + 4) W (.slice pv lv cv) Q ∧ IsL (w.heap.size + 4) W (.slice pu lu cu) U) := fun W hW => ⟨hqu.1.below hW, hqu.2.below hW⟩
      have HVL : Hid (val a = val Q * val b + val U ∧ val U < val b) := ⟨hval, hlt⟩
      have HBC : Hid (Below W0.heap.size W0 wc) := hbx
      obtain ⟨w1, hw1⟩ : ∃ w1, wc = w1 := ⟨_, rfl⟩
      subst hw1
      clear hqu hval hlt hbx a0 a1 a2 b0 b1 b2 r0 r1 r2 t0 t1 t2
      obtain ⟨a0, a1, a2, b0, b1, b2, r0, r1, r2, t0, t1, t2, f⟩ := HBX.out _ HBC.out
      clear f
      have hs0 : w.heap.size < wc.heap.size := by have := HBC.out.size; have := HS.out; omega
      have hs1 : w.heap.size + 1 < wc.heap.size := by have := HBC.out.size; have := HS.out; omega
      go_upto_region 10 with fail
      go_cut [10] (fun s10 wx => ∃ (gq : Nat) (z0 : Int) (zn : Bool) (za : Option Addr) (zl zc : Nat), s10 = .pointer (some ⟨gq, 0, none⟩) ∧ W0.heap.size ≤ gq ∧ BoxV gq wx z0 zn za zl zc ∧ IsN (w.heap.size + 4) wx (.agg #[.int .i64 z0, .bool zn, .slice za zl zc]) (sg (s != t) (val Q)) ∧ Below wc.heap.size wc wx)
      case first =>
        go_region_with (first
          | (go_at_call_of 37 (Value.int IntKind.i64 x); refine (l1Neg_ex _ _ _ _ _ _).mono ?_; rintro e w' ⟨rfl, rfl⟩; rw [HNA.out])
          | (go_at_call_of 37 (Value.int IntKind.i64 y); refine (l1Neg_ex _ _ _ _ _ _).mono ?_; rintro e w' ⟨rfl, rfl⟩; rw [HNB.out])
          | (go_at_call 21; refine (l1Make_at (w.heap.size + 4) _ _ Q wc _ (HQU.out wc (Below.refl _ _)).1 ?_).mono ?_
             · repeat' (first | exact Below.refl _ _ | refine Below.drew ?_ | refine Below.alloc ?_ ?_ _ | (simp; done) | (simp; omega))
             rintro e we ⟨z, rfl, hmk, hbe, hbW⟩
             have hN : IsN (w.heap.size + 4) we z (sg (s != t) (val Q)) := ⟨s != t, trimL Q, hmk, by rw [val_trimL]⟩
             have HN : Hid (IsN (w.heap.size + 4) we z (sg (s != t) (val Q))) := hN
             have HBE : Hid (Below wc.heap.size wc we) := hbe
             have hBV : ∀ g, BoxV g _ 0 false none 0 0 → BoxV g we 0 false none 0 0 := fun g h => h.below h.lt hbW
             have HBV := hide hBV
             have hcl := fun (i : Nat) (g : Nat) hp => hbW.cell (p := ⟨g, i, none⟩) hp
             have hfz := fun (i : Nat) (g : Nat) hp => hbW.frozen (p := ⟨g, i, none⟩) hp
             obtain ⟨z0, zn, za, zl, zc, hzz⟩ := hN.shape
             subst hzz
             clear hmk hbe hN hbW hBV))
        all_goals
          go_wp2_with fail
          go_meet
          first
            | exact ⟨we.heap.size, z0, zn, za, zl, zc, rfl, (by have := HBE.out.size; have := HBC.out.size; omega), boxV_new we z0 zn za zl zc _, HN.out.below (below_alloc _ _), HBE.out.alloc HBE.out.size _⟩
            | (have hbv : BoxV wc.heap.size we 0 false none 0 0 := HBV.out _ (by repeat' (first | exact boxV_new' _ _ (by simp) _ _ _ _ _ _ | refine BoxV.alloc ?_ _ | refine BoxV.drew ?_))
               exact ⟨wc.heap.size, z0, zn, za, zl, zc, rfl, (by have := HBC.out.size; omega), hbv.put z0 zn za zl zc, HN.out.keeps hbv.n hbv.n (Keeps.three _ _ _ _ _), ((HBE.out.setCell (by simp) _).setCell (by simp) _).setCell (by simp) _⟩)
            | (have hbv : BoxV (wc.heap.size + 1) we 0 false none 0 0 := HBV.out _ (by repeat' (first | exact boxV_new' _ _ (by simp) _ _ _ _ _ _ | refine BoxV.alloc ?_ _ | refine BoxV.drew ?_))
               exact ⟨wc.heap.size + 1, z0, zn, za, zl, zc, rfl, (by have := HBC.out.size; omega), hbv.put z0 zn za zl zc, HN.out.keeps hbv.n hbv.n (Keeps.three _ _ _ _ _), ((HBE.out.setCell (by simp) _).setCell (by simp) _).setCell (by simp) _⟩)
            | (have hbv : BoxV (wc.heap.size + 1 + 1) we 0 false none 0 0 := HBV.out _ (by repeat' (first | exact boxV_new' _ _ (by simp) _ _ _ _ _ _ | refine BoxV.alloc ?_ _ | refine BoxV.drew ?_))
               exact ⟨wc.heap.size + 1 + 1, z0, zn, za, zl, zc, rfl, (by have := HBC.out.size; omega), hbv.put z0 zn za zl zc, HN.out.keeps hbv.n hbv.n (Keeps.three _ _ _ _ _), ((HBE.out.setCell (by simp; omega) _).setCell (by simp; omega) _).setCell (by simp; omega) _⟩)
      case rest =>
        obtain ⟨gq, z0, zn, za, zl, zc, rfl, hgq, hbv, hN, hbx⟩ := hcut
        have HGQ : Hid (W0.heap.size ≤ gq ∧ BoxV gq wc z0 zn za zl zc ∧ IsN (w.heap.size + 4) wc (.agg #[.int .i64 z0, .bool zn, .slice za zl zc]) (sg (s != t) (val Q))) := ⟨hgq, hbv, hN⟩
        have HBD : Hid (Below W0.heap.size W0 wc) := HBC.out.trans (hbx.mono HBC.out.size)
        have HUL : Hid (IsL (w.heap.size + 4) wc (.slice pu lu cu) U) := (HQU.out wc hbx).2
        clear hgq hbv hN hbx a0 a1 a2 b0 b1 b2 r0 r1 r2 t0 t1 t2 hs0 hs1
        go_wp2_with fail
        refine (l1Make_at (w.heap.size + 4) false _ U wc wc HUL.out (Below.refl _ _)).mono ?_
        rintro e w2 ⟨zr, rfl, hmk, hb2, _⟩
        have HMK : Hid (IsZ (w.heap.size + 4) w2 zr false (trimL U)) := hmk
        have HB2 : Hid (Below wc.heap.size wc w2) := hb2
        obtain ⟨y0, yn', ya, yl, yc, hzz⟩ := hmk.shape
        subst hzz
        clear hmk hb2
        obtain ⟨w3, hw3⟩ : ∃ w3, w2.alloc (.cells #[.int .i64 y0, .bool yn', .slice ya yl yc] 28) = w3 := ⟨_, rfl⟩
        have HW3 := hide hw3
        have hb3 : Below w2.heap.size w2 w3 := by rw [← hw3]; exact below_alloc _ _
        have hB3 : Below wc.heap.size wc w3 := HB2.out.trans (hb3.mono HB2.out.size)
        have HB3 : Hid (Below W0.heap.size W0 w3) := HBD.out.trans (hB3.mono HBD.out.size)
        have HQ3 : Hid (BoxV gq w3 z0 zn za zl zc ∧ IsN (w.heap.size + 4) w3 (.agg #[.int .i64 z0, .bool zn, .slice za zl zc]) (sg (s != t) (val Q)) ∧ gq < w2.heap.size) := ⟨HGQ.out.2.1.below HGQ.out.2.1.lt hB3, HGQ.out.2.2.below hB3, Nat.lt_of_lt_of_le HGQ.out.2.1.lt HB2.out.size⟩
        have HR3 : Hid (BoxV w2.heap.size w3 y0 yn' ya yl yc ∧ IsN (w.heap.size + 4) w3 (.agg #[.int .i64 y0, .bool yn', .slice ya yl yc]) (sg false (val U))) := by
          refine ⟨by rw [← hw3]; exact boxV_new _ _ _ _ _ _ _, ⟨false, trimL U, HMK.out.below hb3, by rw [val_trimL]⟩⟩
        have HZR : Hid ((((yl : Int) == 0) && (y0 == 0)) = decide (val U = 0)) := by
          have h := zero_of_isZ HMK.out
          rw [val_trimL] at h
          exact h
        clear hw3 hb3 hB3
        obtain ⟨a0, a1, a2, b0, b1, b2, r0, r1, r2, t0, t1, t2, f⟩ := HBX.out _ HB3.out
        clear f
        go_upto_region 12 with fail
        rw [HW3.out]
        go_wp2_with fail
        refine (l1Neg_ex _ _ _ _ _ _).mono ?_
        rintro e w4 ⟨rfl, hw4⟩
        rw [HNA.out]
        have hb4 : Below w3.heap.size w3 w4 := by rw [hw4]; exact below_alloc _ _
        have HB4 : Hid (Below W0.heap.size W0 w4) := HB3.out.trans (hb4.mono HB3.out.size)
        have HQ4 : Hid (BoxV gq w4 z0 zn za zl zc ∧ IsN (w.heap.size + 4) w4 (.agg #[.int .i64 z0, .bool zn, .slice za zl zc]) (sg (s != t) (val Q)) ∧ gq < w2.heap.size) := ⟨HQ3.out.1.below HQ3.out.1.lt hb4, HQ3.out.2.1.below hb4, HQ3.out.2.2⟩
        have HR4 : Hid (BoxV w2.heap.size w4 y0 yn' ya yl yc ∧ IsN (w.heap.size + 4) w4 (.agg #[.int .i64 y0, .bool yn', .slice ya yl yc]) (sg false (val U))) := ⟨HR3.out.1.below HR3.out.1.lt hb4, HR3.out.2.below hb4⟩
        clear hw4 hb4 a0 a1 a2 b0 b1 b2 r0 r1 r2 t0 t1 t2
        obtain ⟨a0, a1, a2, b0, b1, b2, r0, r1, r2, t0, t1, t2, f⟩ := HBX.out _ HB4.out
        have f20 := f 2 (by omega) 0
        have f21 := f 2 (by omega) 1
        have f22 := f 2 (by omega) 2
        have f30 := f 3 (by omega) 0
        have f31 := f 3 (by omega) 1
        have f32 := f 3 (by omega) 2
        clear f
        obtain ⟨_, q0, q1, q2, fq, _⟩ := HQ4.out.1
        obtain ⟨_, g0, g1, g2, fg, _⟩ := HR4.out.1
        clear fq fg
        have hq4 : w.heap.size + 4 ≤ gq := by have := HGQ.out.1; have := HS.out; omega
        have hr4 : w.heap.size + 4 ≤ w2.heap.size := by have := HQ4.out.2.2; omega
        have HBF : Hid (Below w.heap.size w w4) := HF.out _ HB4.out
        cases s
        · go_wp2_with fail
          go_region
          all_goals
            go_wp2
            refine bodyPost_ret ?_ rfl ⟨_, _, _, _, rfl, ⟨((((((HQ4.out.2.1.setCell _ _ ?_).setCell _ _ ?_).setCell _ _ ?_).setCell _ _ ?_).setCell _ _ ?_).setCell _ _ ?_).drew.mono ?_, ((((((HR4.out.2.setCell _ _ ?_).setCell _ _ ?_).setCell _ _ ?_).setCell _ _ ?_).setCell _ _ ?_).setCell _ _ ?_).drew.mono ?_⟩, isDiv_pos t _ _ _ _ HVL.out.1 HVL.out.2, ((((((HBF.out.setCell ?_ _).setCell ?_ _).setCell ?_ _).setCell ?_ _).setCell ?_ _).setCell ?_ _).drew⟩
            all_goals first
              | (simp [results, Tryd.results24, go_sem, r0, r1, r2, t0, t1, t2]; done)
              | (simp; omega)
              | omega
        · go_wp2_with fail
          refine (l1Zero_ex _ _ _ _ _ _).mono ?_
          rintro e w5 ⟨rfl, hb5⟩
          rw [HZR.out]
          have HB5 : Hid (Below W0.heap.size W0 w5) := HB4.out.trans (hb5.mono HB4.out.size)
          have HQ5 : Hid (BoxV gq w5 z0 zn za zl zc ∧ IsN (w.heap.size + 4) w5 (.agg #[.int .i64 z0, .bool zn, .slice za zl zc]) (sg (true != t) (val Q)) ∧ gq < w2.heap.size) := ⟨HQ4.out.1.below HQ4.out.1.lt hb5, HQ4.out.2.1.below hb5, HQ4.out.2.2⟩
          have HR5 : Hid (BoxV w2.heap.size w5 y0 yn' ya yl yc ∧ IsN (w.heap.size + 4) w5 (.agg #[.int .i64 y0, .bool yn', .slice ya yl yc]) (sg false (val U))) := ⟨HR4.out.1.below HR4.out.1.lt hb5, HR4.out.2.below hb5⟩
          have HBF : Hid (Below w.heap.size w w5) := HF.out _ HB5.out
          clear hb5 a0 a1 a2 b0 b1 b2 r0 r1 r2 t0 t1 t2 f20 f21 f22 f30 f31 f32 q0 q1 q2 g0 g1 g2
          obtain ⟨a0, a1, a2, b0, b1, b2, r0, r1, r2, t0, t1, t2, f⟩ := HBX.out _ HB5.out
          have f20 := f 2 (by omega) 0
          have f21 := f 2 (by omega) 1
          have f22 := f 2 (by omega) 2
          have f30 := f 3 (by omega) 0
          have f31 := f 3 (by omega) 1
          have f32 := f 3 (by omega) 2
          clear f
          obtain ⟨_, q0, q1, q2, fq, _⟩ := HQ5.out.1
          obtain ⟨_, g0, g1, g2, fg, _⟩ := HR5.out.1
          have fg0 := fg 0
          have fg1 := fg 1
          have fg2 := fg 2
          have fq0 := fq 0
          have fq1 := fq 1
          have fq2 := fq 2
          clear fq fg
          by_cases hU : val U = 0
          · have zz : decide (val U = 0) = true := decide_eq_true hU
            have HDZ : Hid (IsDiv (sg true (val a)) (sg t (val b)) (sg (true != t) (val Q)) (sg false (val U))) := by
              have h := HVL.out
              rw [hU] at h ⊢
              exact isDiv_zero t _ _ _ h.1 h.2
            rw [zz]
            clear hU
            go_wp2_with fail
            go_region
            all_goals
              go_wp2
              refine bodyPost_ret ?_ rfl ⟨_, _, _, _, rfl, ⟨((((((HQ5.out.2.1.setCell _ _ ?_).setCell _ _ ?_).setCell _ _ ?_).setCell _ _ ?_).setCell _ _ ?_).setCell _ _ ?_).drew.mono ?_, ((((((HR5.out.2.setCell _ _ ?_).setCell _ _ ?_).setCell _ _ ?_).setCell _ _ ?_).setCell _ _ ?_).setCell _ _ ?_).drew.mono ?_⟩, HDZ.out, ((((((HBF.out.setCell ?_ _).setCell ?_ _).setCell ?_ _).setCell ?_ _).setCell ?_ _).setCell ?_ _).drew⟩
              all_goals first
                | (simp [results, Tryd.results24, go_sem, r0, r1, r2, t0, t1, t2]; done)
                | (simp; omega)
                | omega
          · have zz : decide (val U = 0) = false := decide_eq_false hU
            rw [zz]
            have HUP : Hid (0 < val U) := Nat.pos_of_ne_zero hU
            clear hU
            go_wp2_with fail
            refine (l1Limbs_any B _ nb b _ (HZB.out _ HB5.out) (by have := HB5.out.size; have := HS.out; have := HBW.out; omega)).mono ?_
            rintro e w6 ⟨v6, rfl, hv6, hb6⟩
            have HV6 : Hid (IsL B w6 v6 b) := hv6
            have HB6 : Hid (Below w5.heap.size w5 w6) := hb6
            obtain ⟨p6, c6, e6, _⟩ := id hv6
            subst e6
            clear hv6 hb6
            go_wp2_with fail
            refine (l1Make_at B false _ b w6 w6 HV6.out (Below.refl _ _)).mono ?_
            rintro e w7 ⟨zs, rfl, hmk, hb7, _⟩
            have HMS : Hid (IsZ B w7 zs false (trimL b)) := hmk
            have HB7 : Hid (Below w5.heap.size w5 w7) := HB6.out.trans (hb7.mono HB6.out.size)
            obtain ⟨x0, xn', xa, xl, xc, hzz⟩ := hmk.shape
            subst hzz
            clear hmk hb7
            obtain ⟨w8, hw8⟩ : ∃ w8, w7.alloc (.cells #[.int .i64 x0, .bool xn', .slice xa xl xc] 28) = w8 := ⟨_, rfl⟩
            have HW8 := hide hw8
            have hb8 : Below w7.heap.size w7 w8 := by rw [← hw8]; exact below_alloc _ _
            have hB8 : Below w5.heap.size w5 w8 := HB7.out.trans (hb8.mono HB7.out.size)
            have HB8 : Hid (Below W0.heap.size W0 w8) := HB5.out.trans (hB8.mono HB5.out.size)
            have HQ8 : Hid (BoxV gq w8 z0 zn za zl zc ∧ IsN (w.heap.size + 4) w8 (.agg #[.int .i64 z0, .bool zn, .slice za zl zc]) (sg (true != t) (val Q)) ∧ gq < w2.heap.size) := ⟨HQ5.out.1.below HQ5.out.1.lt hB8, HQ5.out.2.1.below hB8, HQ5.out.2.2⟩
            have HR8 : Hid (BoxV w2.heap.size w8 y0 yn' ya yl yc ∧ IsN (w.heap.size + 4) w8 (.agg #[.int .i64 y0, .bool yn', .slice ya yl yc]) (sg false (val U)) ∧ w2.heap.size < w7.heap.size) := ⟨HR5.out.1.below HR5.out.1.lt hB8, HR5.out.2.below hB8, Nat.lt_of_lt_of_le HR5.out.1.lt HB7.out.size⟩
            have HS8 : Hid (BoxV w7.heap.size w8 x0 xn' xa xl xc ∧ IsZ B w8 (.agg #[.int .i64 x0, .bool xn', .slice xa xl xc]) false (trimL b)) := ⟨by rw [← hw8]; exact boxV_new _ _ _ _ _ _ _, HMS.out.below hb8⟩
            clear hw8 hb8 hB8 a0 a1 a2 b0 b1 b2 r0 r1 r2 t0 t1 t2 f20 f21 f22 f30 f31 f32 q0 q1 q2 g0 g1 g2 fg0 fg1 fg2 fq0 fq1 fq2
            obtain ⟨_, g0, g1, g2, fg, _⟩ := HR8.out.1
            obtain ⟨_, s0, s1, s2, fs, _⟩ := HS8.out.1
            have fg0 := fg 0
            have fg1 := fg 1
            have fg2 := fg 2
            clear fs fg
            go_upto_region 14 with fail
            rw [HW8.out]
            go_wp2_with fail
            obtain ⟨nr, tr, hZr, hxr⟩ := HR8.out.2.1
            have hvr : val tr = val U := by cases nr <;> simp [sg] at hxr <;> omega
            have hlr : tr.length ≤ b.length := len_of_val tr b hZr.2.1 HOKB.out (by rw [hvr]; exact HVL.out.2)
            refine (l1Sub_any B _ _ false nr (trimL b) tr _ (by have := HB8.out.size; have := HS.out; have := HBW.out; omega) HS8.out.2 (hZr.mono (by have := HBW.out; omega)) (by have := trimL_len b; have := HLA.out.2.1; omega) (by have := HLA.out.2.1; omega)).mono ?_
            rintro e w9 ⟨z9, rfl, hN9, hb9⟩
            have HN9 : Hid (IsN w8.heap.size w9 z9 (sg false (val b - val U : Nat))) := by
              have e : sg false (val (trimL b)) - sg nr (val tr) = sg false (val b - val U : Nat) := by rw [hxr, val_trimL]; have := HVL.out.2; simp [sg]; omega
              rw [e] at hN9
              exact hN9
            have HR9 : Hid (BoxV w2.heap.size w9 y0 yn' ya yl yc) := HR8.out.1.below HR8.out.1.lt hb9
            have HQ9 : Hid (BoxV gq w9 z0 zn za zl zc ∧ IsN (w.heap.size + 4) w9 (.agg #[.int .i64 z0, .bool zn, .slice za zl zc]) (sg (true != t) (val Q))) := ⟨HQ8.out.1.below HQ8.out.1.lt hb9, HQ8.out.2.1.below hb9⟩
            have HB9 : Hid (Below W0.heap.size W0 w9) := HB8.out.trans (hb9.mono HB8.out.size)
            have HLT9 : Hid (w2.heap.size < w8.heap.size) := HR8.out.1.lt
            have HB89 : Hid (w8.heap.size ≤ w9.heap.size) := hb9.size
            obtain ⟨n0, nn, np, nl, nc, hn9⟩ := hN9.shape
            subst hn9
            clear hZr hxr hvr hlr hN9 hb9 g0 g1 g2 s0 s1 s2 fg0 fg1 fg2
            obtain ⟨_, g0, g1, g2, fg, _⟩ := HR9.out
            have fg0 := fg 0
            have fg1 := fg 1
            have fg2 := fg 2
            clear fg
            obtain ⟨w10, hw10⟩ : ∃ w10, ((w9.setCell ⟨w2.heap.size, 0, none⟩ (.int .i64 n0)).setCell ⟨w2.heap.size, 1, none⟩ (.bool nn)).setCell ⟨w2.heap.size, 2, none⟩ (.slice np nl nc) = w10 := ⟨_, rfl⟩
            have HW10 := hide hw10
            have hk10 : Keeps w2.heap.size w2.heap.size w9 w10 := by rw [← hw10]; exact Keeps.three _ _ _ _ _
            have HR10 : Hid (BoxV w2.heap.size w10 n0 nn np nl nc ∧ IsN w8.heap.size w10 (.agg #[.int .i64 n0, .bool nn, .slice np nl nc]) (sg false (val b - val U : Nat))) := by
              rw [← hw10]
              exact ⟨HR9.out.put _ _ _ _ _, ((HN9.out.setCell _ _ HLT9.out).setCell _ _ HLT9.out).setCell _ _ HLT9.out⟩
            have HQ10 : Hid (BoxV gq w10 z0 zn za zl zc ∧ IsN (w.heap.size + 4) w10 (.agg #[.int .i64 z0, .bool zn, .slice za zl zc]) (sg (true != t) (val Q))) := ⟨HQ9.out.1.other (by have := HQ8.out.2.2; omega) hk10, HQ9.out.2.keeps HR9.out.n HR9.out.n hk10⟩
            have HB10 : Hid (Below w.heap.size w w10) := by
              rw [← hw10]
              exact (((HF.out _ HB9.out).setCell (by show w.heap.size ≤ w2.heap.size; omega) _).setCell (by show w.heap.size ≤ w2.heap.size; omega) _).setCell (by show w.heap.size ≤ w2.heap.size; omega) _
            have HX10 : Hid (BoxQ w.heap.size w10 x xn pa la ca y yn pb lb cb ∧ w8.heap.size ≤ w10.heap.size) := by
              refine ⟨?_, by rw [← hw10]; simpa using HB89.out⟩
              rw [← hw10]
              exact (((HBX.out _ HB9.out).far _ (by show w.heap.size + 4 ≤ w2.heap.size; omega) _).far _ (by show w.heap.size + 4 ≤ w2.heap.size; omega) _).far _ (by show w.heap.size + 4 ≤ w2.heap.size; omega) _
            clear hw10 hk10
            go_upto_region 15 with fail
            rw [HW10.out]
            clear g0 g1 g2 fg0 fg1 fg2
            obtain ⟨a0, a1, a2, b0, b1, b2, r0, r1, r2, t0, t1, t2, f⟩ := HX10.out.1
            clear f
            go_wp2_with fail
            refine (l1Neg_ex _ _ _ _ _ _).mono ?_
            rintro e w11 ⟨rfl, hw11⟩
            rw [HNB.out]
            have hb11 : Below w10.heap.size w10 w11 := by rw [hw11]; exact below_alloc _ _
            have HQ11 : Hid (BoxV gq w11 z0 zn za zl zc ∧ IsN (w.heap.size + 4) w11 (.agg #[.int .i64 z0, .bool zn, .slice za zl zc]) (sg (true != t) (val Q))) := ⟨HQ10.out.1.below HQ10.out.1.lt hb11, HQ10.out.2.below hb11⟩
            have HR11 : Hid (BoxV w2.heap.size w11 n0 nn np nl nc ∧ IsN w8.heap.size w11 (.agg #[.int .i64 n0, .bool nn, .slice np nl nc]) (sg false (val b - val U : Nat))) := ⟨HR10.out.1.below HR10.out.1.lt hb11, HR10.out.2.below hb11⟩
            have HS11 : Hid (w.heap.size + 4 ≤ w11.heap.size) := by have := hb11.size; have := HR10.out.1.lt; show w.heap.size + 4 ≤ w11.heap.size; omega
            have HX11 : Hid (BoxQ w.heap.size w11 x xn pa la ca y yn pb lb cb ∧ Below w.heap.size w w11) := ⟨HX10.out.1.below (by have := HR10.out.1.lt; omega) hb11, HB10.out.trans (hb11.mono HB10.out.size)⟩
            have HQA : Hid (val Q ≤ val a) := by
              have h := HVL.out
              have hp : 1 ≤ val b := by omega
              have : val Q * 1 ≤ val Q * val b := Nat.mul_le_mul_left _ hp
              show val Q ≤ val a
              omega
            clear hw11 hb11 a0 a1 a2 b0 b1 b2 r0 r1 r2 t0 t1 t2
            obtain ⟨a0, a1, a2, b0, b1, b2, r0, r1, r2, t0, t1, t2, f⟩ := HX11.out.1
            obtain ⟨_, q0, q1, q2, fq, _⟩ := HQ11.out.1
            have fq0 := fq 0
            have fq1 := fq 1
            have fq2 := fq 2
            clear f fq
            cases t
            · go_wp2_with fail
              go_region_with (first
                | (go_at_call 40; refine (l1Small_any 1 _ (by omega) (by omega)).mono ?_
                   rintro e w12 ⟨z1, rfl, ⟨n1, o1, hZ1, hv1, hl1⟩, hb12⟩
                   have hB12 : Below w11.heap.size w11 w12 := (Below.refl _ w11).drew.trans (hb12.mono (Nat.le_refl _))
                   obtain ⟨nq, tq, hZq, hxq⟩ := HQ11.out.2
                   have hvq : val tq = val Q := by cases nq <;> simp [sg] at hxq <;> omega
                   have hlq : tq.length ≤ a.length := len_of_le tq a hZq.2.1 HOKA.out (by rw [hvq]; exact HQA.out)
                   obtain ⟨i0, i1, i2, i3, i4, hz1⟩ := hZ1.shape
                   subst hz1
                   have H12 : Hid (IsZ w11.heap.size w12 (.agg #[.int .i64 i0, .bool i1, .slice i2 i3 i4]) n1 o1 ∧ sg n1 (val o1) = 1 ∧ o1.length ≤ 3 ∧ Below w11.heap.size w11 w12 ∧ IsZ (w.heap.size + 4) w11 (.agg #[.int .i64 z0, .bool zn, .slice za zl zc]) nq tq ∧ tq.length ≤ a.length) := ⟨hZ1, hv1, hl1, hB12, hZq, hlq⟩
                   have HXQ : Hid (sg nq (val tq) = sg (true != false) (val Q)) := hxq
                   obtain ⟨_, q0', q1', q2', _, _⟩ := HQ11.out.1.below HQ11.out.1.lt hB12
                   clear hZ1 hv1 hl1 hb12 hB12 hZq hxq hvq hlq)
                | (go_at_call 38; refine (l1Sub_any B _ _ nq n1 tq o1 _ (by have := H12.out.2.2.2.1.size; have := HS11.out; have := HBW.out; omega) ((H12.out.2.2.2.2.1.below H12.out.2.2.2.1).mono (by have := HBW.out; omega)) (H12.out.1.mono (by have := HS11.out; have := HBW.out; omega)) (by have := HLA.out.1; have := H12.out.2.2.2.2.2; omega) (by have := H12.out.2.2.1; omega)).mono ?_
                   rintro e w13 ⟨zq, rfl, hNq, hb13⟩
                   have hB13 : Below w11.heap.size w11 w13 := H12.out.2.2.2.1.trans (hb13.mono H12.out.2.2.2.1.size)
                   have HNQ : Hid (IsN w12.heap.size w13 zq (sg true (val Q + 1))) := by
                     rw [HXQ.out, H12.out.2.1] at hNq
                     have e : sg (true != false) (val Q) - 1 = sg true (val Q + 1) := by simp [sg] <;> omega
                     rw [e] at hNq
                     exact hNq
                   have HQ13 : Hid (BoxV gq w13 z0 zn za zl zc ∧ gq < w12.heap.size) := ⟨HQ11.out.1.below HQ11.out.1.lt hB13, Nat.lt_of_lt_of_le HQ11.out.1.lt H12.out.2.2.2.1.size⟩
                   have HR13 : Hid (BoxV w2.heap.size w13 n0 nn np nl nc ∧ IsN w8.heap.size w13 (.agg #[.int .i64 n0, .bool nn, .slice np nl nc]) (sg false (val b - val U : Nat))) := ⟨HR11.out.1.below HR11.out.1.lt hB13, HR11.out.2.below hB13⟩
                   have HX13 : Hid (BoxQ w.heap.size w13 x xn pa la ca y yn pb lb cb ∧ Below w.heap.size w w13) := ⟨HX11.out.1.below (by have := HS11.out; omega) hB13, HX11.out.2.trans (hB13.mono HX11.out.2.size)⟩
                   obtain ⟨m0, mn, mp, ml, mc, hmq⟩ := hNq.shape
                   subst hmq
                   obtain ⟨_, v0, v1, v2, fv, _⟩ := HQ13.out.1
                   have fv0 := fv 0
                   have fv1 := fv 1
                   have fv2 := fv 2
                   clear hNq hb13 hB13 fv))
              all_goals
               try simp only [List.getElem_toArray, List.getElem_cons_succ, List.getElem_cons_zero, Act.put, List.setIfInBounds_toArray, List.set_cons_succ, List.set_cons_zero]
               clear a0 a1 a2 b0 b1 b2 r0 r1 r2 t0 t1 t2 q0 q1 q2 fq0 fq1 fq2 v0 v1 v2 fv0 fv1 fv2
               obtain ⟨w14, hw14⟩ : ∃ w14, ((w13.setCell ⟨gq, 0, none⟩ (.int .i64 m0)).setCell ⟨gq, 1, none⟩ (.bool mn)).setCell ⟨gq, 2, none⟩ (.slice mp ml mc) = w14 := ⟨_, rfl⟩
               have HW14 := hide hw14
               have hgb : w.heap.size ≤ gq := by omega
               have hg8 : gq < w8.heap.size := by have := HLT9.out; have := HQ8.out.2.2; omega
               have HQ14 : Hid (BoxV gq w14 m0 mn mp ml mc ∧ IsN w12.heap.size w14 (.agg #[.int .i64 m0, .bool mn, .slice mp ml mc]) (sg true (val Q + 1))) := by
                 rw [← hw14]
                 exact ⟨HQ13.out.1.put _ _ _ _ _, ((HNQ.out.setCell _ _ HQ13.out.2).setCell _ _ HQ13.out.2).setCell _ _ HQ13.out.2⟩
               have HR14 : Hid (BoxV w2.heap.size w14 n0 nn np nl nc ∧ IsN w8.heap.size w14 (.agg #[.int .i64 n0, .bool nn, .slice np nl nc]) (sg false (val b - val U : Nat))) := by
                 rw [← hw14]
                 exact ⟨HR13.out.1.other (by have := HQ8.out.2.2; omega) (Keeps.three _ _ _ _ _), ((HR13.out.2.setCell _ _ hg8).setCell _ _ hg8).setCell _ _ hg8⟩
               have HX14 : Hid (BoxQ w.heap.size w14 x xn pa la ca y yn pb lb cb) := by
                 rw [← hw14]
                 exact ((HX13.out.1.far _ (by show w.heap.size + 4 ≤ gq; omega) _).far _ (by show w.heap.size + 4 ≤ gq; omega) _).far _ (by show w.heap.size + 4 ≤ gq; omega) _
               have HBF : Hid (Below w.heap.size w w14) := by
                 rw [← hw14]
                 exact ((HX13.out.2.setCell hgb _).setCell hgb _).setCell hgb _
               have HDV : Hid (IsDiv (sg true (val a)) (sg false (val b)) (sg true (val Q + 1)) (sg false (val b - val U : Nat))) := isDiv_neg false _ _ _ _ _ HVL.out.1 (by have := HVL.out.2; omega) HUP.out
               have hb12 : w.heap.size + 4 ≤ w12.heap.size := by have := HQ13.out.2; omega
               have hb8 : w.heap.size + 4 ≤ w8.heap.size := by omega
               clear hw14
               go_upto_region 18 with fail
               rw [HW14.out]
               obtain ⟨_, _, _, _, _, _, r0, r1, r2, t0, t1, t2, f⟩ := HX14.out
               have f20 := f 2 (by omega) 0
               have f21 := f 2 (by omega) 1
               have f22 := f 2 (by omega) 2
               have f30 := f 3 (by omega) 0
               have f31 := f 3 (by omega) 1
               have f32 := f 3 (by omega) 2
               clear f
               obtain ⟨_, q0, q1, q2, fq, _⟩ := HQ14.out.1
               obtain ⟨_, g0, g1, g2, fg, _⟩ := HR14.out.1
               clear fq fg
               go_wp2_with fail
               go_region
               all_goals
                 go_wp2
                 refine bodyPost_ret ?_ rfl ⟨_, _, _, _, rfl, ⟨((((((HQ14.out.2.setCell _ _ ?_).setCell _ _ ?_).setCell _ _ ?_).setCell _ _ ?_).setCell _ _ ?_).setCell _ _ ?_).drew.mono ?_, ((((((HR14.out.2.setCell _ _ ?_).setCell _ _ ?_).setCell _ _ ?_).setCell _ _ ?_).setCell _ _ ?_).setCell _ _ ?_).drew.mono ?_⟩, HDV.out, ((((((HBF.out.setCell ?_ _).setCell ?_ _).setCell ?_ _).setCell ?_ _).setCell ?_ _).setCell ?_ _).drew⟩
                 all_goals first
                   | (simp [results, Tryd.results24, go_sem, r0, r1, r2, t0, t1, t2]; done)
                   | (simp; omega)
                   | omega
            · go_wp2_with fail
              go_region_with (first
                | (go_at_call 40; refine (l1Small_any 1 _ (by omega) (by omega)).mono ?_
                   rintro e w12 ⟨z1, rfl, ⟨n1, o1, hZ1, hv1, hl1⟩, hb12⟩
                   have hB12 : Below w11.heap.size w11 w12 := (Below.refl _ w11).drew.trans (hb12.mono (Nat.le_refl _))
                   obtain ⟨nq, tq, hZq, hxq⟩ := HQ11.out.2
                   have hvq : val tq = val Q := by cases nq <;> simp [sg] at hxq <;> omega
                   have hlq : tq.length ≤ a.length := len_of_le tq a hZq.2.1 HOKA.out (by rw [hvq]; exact HQA.out)
                   obtain ⟨i0, i1, i2, i3, i4, hz1⟩ := hZ1.shape
                   subst hz1
                   have H12 : Hid (IsZ w11.heap.size w12 (.agg #[.int .i64 i0, .bool i1, .slice i2 i3 i4]) n1 o1 ∧ sg n1 (val o1) = 1 ∧ o1.length ≤ 3 ∧ Below w11.heap.size w11 w12 ∧ IsZ (w.heap.size + 4) w11 (.agg #[.int .i64 z0, .bool zn, .slice za zl zc]) nq tq ∧ tq.length ≤ a.length) := ⟨hZ1, hv1, hl1, hB12, hZq, hlq⟩
                   have HXQ : Hid (sg nq (val tq) = sg (true != true) (val Q)) := hxq
                   obtain ⟨_, q0', q1', q2', _, _⟩ := HQ11.out.1.below HQ11.out.1.lt hB12
                   clear hZ1 hv1 hl1 hb12 hB12 hZq hxq hvq hlq)
                | (go_at_call 39; refine (l1Add_any B _ _ nq n1 tq o1 _ (by have := H12.out.2.2.2.1.size; have := HS11.out; have := HBW.out; omega) ((H12.out.2.2.2.2.1.below H12.out.2.2.2.1).mono (by have := HBW.out; omega)) (H12.out.1.mono (by have := HS11.out; have := HBW.out; omega)) (by have := HLA.out.1; have := H12.out.2.2.2.2.2; omega) (by have := H12.out.2.2.1; omega)).mono ?_
                   rintro e w13 ⟨zq, rfl, hNq, hb13⟩
                   have hB13 : Below w11.heap.size w11 w13 := H12.out.2.2.2.1.trans (hb13.mono H12.out.2.2.2.1.size)
                   have HNQ : Hid (IsN w12.heap.size w13 zq (sg false (val Q + 1))) := by
                     rw [HXQ.out, H12.out.2.1] at hNq
                     have e : sg (true != true) (val Q) + 1 = sg false (val Q + 1) := by simp [sg] <;> omega
                     rw [e] at hNq
                     exact hNq
                   have HQ13 : Hid (BoxV gq w13 z0 zn za zl zc ∧ gq < w12.heap.size) := ⟨HQ11.out.1.below HQ11.out.1.lt hB13, Nat.lt_of_lt_of_le HQ11.out.1.lt H12.out.2.2.2.1.size⟩
                   have HR13 : Hid (BoxV w2.heap.size w13 n0 nn np nl nc ∧ IsN w8.heap.size w13 (.agg #[.int .i64 n0, .bool nn, .slice np nl nc]) (sg false (val b - val U : Nat))) := ⟨HR11.out.1.below HR11.out.1.lt hB13, HR11.out.2.below hB13⟩
                   have HX13 : Hid (BoxQ w.heap.size w13 x xn pa la ca y yn pb lb cb ∧ Below w.heap.size w w13) := ⟨HX11.out.1.below (by have := HS11.out; omega) hB13, HX11.out.2.trans (hB13.mono HX11.out.2.size)⟩
                   obtain ⟨m0, mn, mp, ml, mc, hmq⟩ := hNq.shape
                   subst hmq
                   obtain ⟨_, v0, v1, v2, fv, _⟩ := HQ13.out.1
                   have fv0 := fv 0
                   have fv1 := fv 1
                   have fv2 := fv 2
                   clear hNq hb13 hB13 fv))
              all_goals
               try simp only [List.getElem_toArray, List.getElem_cons_succ, List.getElem_cons_zero, Act.put, List.setIfInBounds_toArray, List.set_cons_succ, List.set_cons_zero]
               clear a0 a1 a2 b0 b1 b2 r0 r1 r2 t0 t1 t2 q0 q1 q2 fq0 fq1 fq2 v0 v1 v2 fv0 fv1 fv2
               obtain ⟨w14, hw14⟩ : ∃ w14, ((w13.setCell ⟨gq, 0, none⟩ (.int .i64 m0)).setCell ⟨gq, 1, none⟩ (.bool mn)).setCell ⟨gq, 2, none⟩ (.slice mp ml mc) = w14 := ⟨_, rfl⟩
               have HW14 := hide hw14
               have hgb : w.heap.size ≤ gq := by omega
               have hg8 : gq < w8.heap.size := by have := HLT9.out; have := HQ8.out.2.2; omega
               have HQ14 : Hid (BoxV gq w14 m0 mn mp ml mc ∧ IsN w12.heap.size w14 (.agg #[.int .i64 m0, .bool mn, .slice mp ml mc]) (sg false (val Q + 1))) := by
                 rw [← hw14]
                 exact ⟨HQ13.out.1.put _ _ _ _ _, ((HNQ.out.setCell _ _ HQ13.out.2).setCell _ _ HQ13.out.2).setCell _ _ HQ13.out.2⟩
               have HR14 : Hid (BoxV w2.heap.size w14 n0 nn np nl nc ∧ IsN w8.heap.size w14 (.agg #[.int .i64 n0, .bool nn, .slice np nl nc]) (sg false (val b - val U : Nat))) := by
                 rw [← hw14]
                 exact ⟨HR13.out.1.other (by have := HQ8.out.2.2; omega) (Keeps.three _ _ _ _ _), ((HR13.out.2.setCell _ _ hg8).setCell _ _ hg8).setCell _ _ hg8⟩
               have HX14 : Hid (BoxQ w.heap.size w14 x xn pa la ca y yn pb lb cb) := by
                 rw [← hw14]
                 exact ((HX13.out.1.far _ (by show w.heap.size + 4 ≤ gq; omega) _).far _ (by show w.heap.size + 4 ≤ gq; omega) _).far _ (by show w.heap.size + 4 ≤ gq; omega) _
               have HBF : Hid (Below w.heap.size w w14) := by
                 rw [← hw14]
                 exact ((HX13.out.2.setCell hgb _).setCell hgb _).setCell hgb _
               have HDV : Hid (IsDiv (sg true (val a)) (sg true (val b)) (sg false (val Q + 1)) (sg false (val b - val U : Nat))) := isDiv_neg true _ _ _ _ _ HVL.out.1 (by have := HVL.out.2; omega) HUP.out
               have hb12 : w.heap.size + 4 ≤ w12.heap.size := by have := HQ13.out.2; omega
               have hb8 : w.heap.size + 4 ≤ w8.heap.size := by omega
               clear hw14
               go_upto_region 18 with fail
               rw [HW14.out]
               obtain ⟨_, _, _, _, _, _, r0, r1, r2, t0, t1, t2, f⟩ := HX14.out
               have f20 := f 2 (by omega) 0
               have f21 := f 2 (by omega) 1
               have f22 := f 2 (by omega) 2
               have f30 := f 3 (by omega) 0
               have f31 := f 3 (by omega) 1
               have f32 := f 3 (by omega) 2
               clear f
               obtain ⟨_, q0, q1, q2, fq, _⟩ := HQ14.out.1
               obtain ⟨_, g0, g1, g2, fg, _⟩ := HR14.out.1
               clear fq fg
               go_wp2_with fail
               go_region
               all_goals
                 go_wp2
                 refine bodyPost_ret ?_ rfl ⟨_, _, _, _, rfl, ⟨((((((HQ14.out.2.setCell _ _ ?_).setCell _ _ ?_).setCell _ _ ?_).setCell _ _ ?_).setCell _ _ ?_).setCell _ _ ?_).drew.mono ?_, ((((((HR14.out.2.setCell _ _ ?_).setCell _ _ ?_).setCell _ _ ?_).setCell _ _ ?_).setCell _ _ ?_).setCell _ _ ?_).drew.mono ?_⟩, HDV.out, ((((((HBF.out.setCell ?_ _).setCell ?_ _).setCell ?_ _).setCell ?_ _).setCell ?_ _).setCell ?_ _).drew⟩
                 all_goals first
                   | (simp [results, Tryd.results24, go_sem, r0, r1, r2, t0, t1, t2]; done)
                   | (simp; omega)
                   | omega
end Go.Proofs.YtpjnglcojamfmaaDoor
