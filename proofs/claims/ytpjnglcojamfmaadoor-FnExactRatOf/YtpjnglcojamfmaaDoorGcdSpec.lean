import Derived.Test.YtpjnglcojamfmaaDoorDivSpec
import Derived.Test.YtpjnglcojamfmaaDoorGcdI
import Derived.Deep.LoopGhost
import Derived.Deep.DeepCutAuto
namespace Go.Proofs.YtpjnglcojamfmaaDoor
open Go.ChangeShapes Go.WideShapes Go.ChangeAt Go.RowKit
theorem lenLt (t : List Nat) (N : Nat) (ht : isTrim t) (h : val t < 1000000000 ^ N) : t.length ≤ N := by
  by_cases hn : t = []
  · rw [hn]; exact Nat.zero_le _
  · have h1 := val_ge t ht hn
    have h4 := (Nat.pow_lt_pow_iff_right (show 1 < 1000000000 by decide)).1 (Nat.lt_of_le_of_lt h1 h)
    omega
theorem gcd_emod (X Y R : Nat) (q : Int) (h : (X : Int) = q * Y + R) (hr : R < Y) : Nat.gcd Y R = Nat.gcd X Y := by
  have h1 : (X : Int) % Y = R := by
    rw [h, Int.add_comm, Int.add_mul_emod_self_right]
    exact Int.emod_eq_of_lt (Int.natCast_nonneg _) (Int.ofNat_lt.2 hr)
  have h2 : X % Y = R := by exact_mod_cast h1
  rw [← h2, Nat.gcd_comm X Y, Nat.gcd_rec Y X, Nat.gcd_comm]
/-- What holds ahead of each round: k is the lesser number; both stand in boxes. -/
def PairM (B P d : Nat) (w0 : World) (gx gy k : Nat) (wr : World) : Prop :=
  ∃ (X : Nat) (x0 : Int) (xn : Bool) (xp : Option Addr) (xl xc : Nat) (y0 : Int) (yn : Bool) (yp : Option Addr) (yl yc : Nat), (BoxV gx wr x0 xn xp xl xc ∧ BoxV gy wr y0 yn yp yl yc ∧ BoxV (w0.heap.size + 2) wr 0 false none 0 0) ∧
    (IsN B wr (.agg #[.int .i64 x0, .bool xn, .slice xp xl xc]) (X : Nat) ∧ IsN B wr (.agg #[.int .i64 y0, .bool yn, .slice yp yl yc]) (k : Nat)) ∧ (X < P ∧ k < P) ∧ Nat.gcd X k = d ∧ Below w0.heap.size w0 wr
theorem isN_shape2 {B : Nat} {w : World} {z : Value} {X : Nat} (N : Nat) (h : IsN B w z (X : Nat)) (hX : X < 1000000000 ^ N) : ∃ neg t, IsZ B w z neg t ∧ sg neg (val t) = (X : Nat) ∧ val t = X ∧ t.length ≤ N := by
  obtain ⟨neg, t, hz, hx⟩ := h
  have hv : val t = X := by have := congrArg Int.natAbs hx; rw [sg_abs] at this; simpa using this
  exact ⟨neg, t, hz, hx, hv, lenLt t N hz.2.1 (by omega)⟩
theorem set3 {N : Nat} {w W : World} (h : Below N w W) (g : Nat) (hg : N ≤ g) (u0 u1 u2 : Value) : Below N w (((W.setCell ⟨g, 0, none⟩ u0).setCell ⟨g, 1, none⟩ u1).setCell ⟨g, 2, none⟩ u2) :=
  ((h.setCell (p := ⟨g, 0, none⟩) hg u0).setCell (p := ⟨g, 1, none⟩) hg u1).setCell (p := ⟨g, 2, none⟩) hg u2
set_option maxRecDepth 100000 in
set_option maxHeartbeats 2000000 in
theorem l1Gcd_any (B : Nat) (za zb : Value) (na nb : Bool) (a b : List Nat) (N : Nat) (w : World) (hBw : B ≤ w.heap.size) (hza : IsZ B w za na a) (hzb : IsZ B w zb nb b) (hla : a.length ≤ N) (hlb : b.length ≤ N) (hN : N ≤ 100000) :
    Calls Tryd.prog 11 #[za, zb] w fun e w' => ∃ z, e = .returned z ∧ IsN B w' z (gcdI (sg na (val a)) (sg nb (val b))) ∧ Below w.heap.size w w' := by
  obtain ⟨a0, an, ap, al, ac, rfl⟩ := hza.shape
  obtain ⟨b0, bn, bp, bl, bc, rfl⟩ := hzb.shape
  obtain ⟨d, hd⟩ : ∃ d, Nat.gcd (val a) (val b) = d := ⟨_, rfl⟩
  have HD := hide hd
  have hgz : gcdI (sg na (val a)) (sg nb (val b)) = (d : Int) := by unfold gcdI Int.gcd; rw [sg_abs, sg_abs, hd]
  rw [hgz]
  obtain ⟨P, hP⟩ : ∃ P, 1000000000 ^ N = P := ⟨_, rfl⟩
  have HP := hide hP
  have HVP : Hid (val a < P ∧ val b < P) := by
    have h1 := Nat.lt_of_lt_of_le (val_lt a hza.1) (Nat.pow_le_pow_right (show 0 < 1000000000 by decide) hla)
    have h2 := Nat.lt_of_lt_of_le (val_lt b hzb.1) (Nat.pow_le_pow_right (show 0 < 1000000000 by decide) hlb)
    rw [hP] at h1 h2
    exact ⟨h1, h2⟩
  have HZA := hide hza
  have HZB := hide hzb
  have HBW := hide hBw
  clear hza hzb hd hgz hP hBw
  obtain ⟨W0, hW0⟩ : ∃ W0, ((w.alloc (.cells #[.int .i64 a0, .bool an, .slice ap al ac] 28)).alloc (.cells #[.int .i64 b0, .bool bn, .slice bp bl bc] 28)).alloc (.cells #[.int .i64 0, .bool false, .slice none 0 0] 28) = W0 := ⟨_, rfl⟩
  have HW0 := hide hW0
  have hs0 : W0.heap.size = w.heap.size + 3 := by rw [← hW0]; simp
  have HS0 := hide hs0
  have HB0 : Hid (Below w.heap.size w W0) := by
    show Below w.heap.size w W0
    rw [← hW0]; exact below_al (below_al (below_alloc _ _) _) _
  have HPX : Hid (∀ W, Below W0.heap.size W0 W → BoxV w.heap.size W a0 an ap al ac ∧ BoxV (w.heap.size + 1) W b0 bn bp bl bc ∧ BoxV (w.heap.size + 2) W 0 false none 0 0) := fun W hW => by
    have h1 : BoxV w.heap.size W0 a0 an ap al ac := by rw [← hW0]; exact ((boxV_new w _ _ _ _ _ _).alloc _).alloc _
    have h2 : BoxV (w.heap.size + 1) W0 b0 bn bp bl bc := by rw [← hW0]; exact (boxV_new' _ _ (by simp) _ _ _ _ _ _).alloc _
    have h3 : BoxV (w.heap.size + 2) W0 0 false none 0 0 := by rw [← hW0]; exact boxV_new' _ _ (by simp) _ _ _ _ _ _
    exact ⟨h1.below h1.lt hW, h2.below h2.lt hW, h3.below h3.lt hW⟩
  clear hW0 hs0
  go_enter Tryd.func11, Tryd.ntmps11
  go_upto_region 1 with fail
  rw [HW0.out]
  obtain ⟨⟨_, q0, q1, q2, _, _⟩, _⟩ := HPX.out W0 (Below.refl _ _)
  go_wp2_with fail
  refine (l1Limbs_any B _ na a _ (HZA.out.below HB0.out) (by have := HBW.out; have := HS0.out; omega)).mono ?_
  rintro e w1 ⟨v1, rfl, hv1, hb1⟩
  have HV1 := hide hv1
  have HB1 := hide hb1
  clear hv1 hb1
  go_wp2_with fail
  refine (l1Make_any B false v1 a _ HV1.out).mono ?_
  rintro e w2 ⟨z1, rfl, hz1, hb2⟩
  have hZ1 : IsZ B w2 z1 false (trimL a) := hz1 _ _ (HV1.out.below hb2)
  have HB2 := hide (HB1.out.trans (hb2.mono HB1.out.size))
  obtain ⟨x0, xn, xp, xl, xc, rfl⟩ := hZ1.shape
  obtain ⟨W2, hW2⟩ : ∃ W2, w2.alloc (.cells #[.int .i64 x0, .bool xn, .slice xp xl xc] 28) = W2 := ⟨_, rfl⟩
  have HW2 := hide hW2
  have hB2' : Below w2.heap.size w2 W2 := by rw [← hW2]; exact below_alloc _ _
  have hs2 : W2.heap.size = w2.heap.size + 1 := by rw [← hW2]; simp
  have HS2 := hide hs2
  have HX2 : Hid (BoxV w2.heap.size W2 x0 xn xp xl xc) := by show BoxV w2.heap.size W2 x0 xn xp xl xc; rw [← hW2]; exact boxV_new w2 _ _ _ _ _ _
  have HZ1 : Hid (IsZ B W2 (.agg #[.int .i64 x0, .bool xn, .slice xp xl xc]) false (trimL a)) := hZ1.below hB2'
  have HB2W : Hid (Below W0.heap.size W0 W2) := HB2.out.trans (hB2'.mono HB2.out.size)
  obtain ⟨_, ⟨_, r0, r1, r2, _, _⟩, _⟩ := HPX.out W2 HB2W.out
  clear hz1 hb2 hW2 hB2' hs2 hZ1 q0 q1 q2
  go_upto_region 2 with fail
  rw [HW2.out]
  go_wp2_with fail
  refine (l1Limbs_any B _ nb b _ (HZB.out.below (HB0.out.trans (HB2W.out.mono HB0.out.size))) (by have := HBW.out; have := HS0.out; have := HB2W.out.size; omega)).mono ?_
  rintro e w3 ⟨v2, rfl, hv2, hb3⟩
  have HV2 := hide hv2
  have HB3 := hide hb3
  clear hv2 hb3
  go_wp2_with fail
  refine (l1Make_any B false v2 b _ HV2.out).mono ?_
  rintro e w4 ⟨z2, rfl, hz2, hb4⟩
  have hZ2 : IsZ B w4 z2 false (trimL b) := hz2 _ _ (HV2.out.below hb4)
  have HB4 := hide (HB3.out.trans (hb4.mono HB3.out.size))
  obtain ⟨y0, yn, yp, yl, yc, rfl⟩ := hZ2.shape
  obtain ⟨W4, hW4⟩ : ∃ W4, w4.alloc (.cells #[.int .i64 y0, .bool yn, .slice yp yl yc] 28) = W4 := ⟨_, rfl⟩
  have HW4 := hide hW4
  have hB4' : Below w4.heap.size w4 W4 := by rw [← hW4]; exact below_alloc _ _
  have HY4 : Hid (BoxV w4.heap.size W4 y0 yn yp yl yc) := by show BoxV w4.heap.size W4 y0 yn yp yl yc; rw [← hW4]; exact boxV_new w4 _ _ _ _ _ _
  have HZ2 : Hid (IsZ B W4 (.agg #[.int .i64 y0, .bool yn, .slice yp yl yc]) false (trimL b)) := hZ2.below hB4'
  have HB4W : Hid (Below W2.heap.size W2 W4) := HB4.out.trans (hB4'.mono HB4.out.size)
  have HS4 : Hid (W2.heap.size ≤ w4.heap.size) := HB4.out.size
  clear hz2 hb4 hW4 hB4' hZ2 r0 r1 r2
  go_wp2
  rw [HW4.out]
  have hgg : w2.heap.size < w4.heap.size := by have := HS2.out; have := HS4.out; omega
  have hg2 : w.heap.size + 2 < w2.heap.size := by have := HB2.out.size; have := HS0.out; omega
  have HX4 := hide (HX2.out.below HX2.out.lt HB4W.out)
  have HZ14 := hide (HZ1.out.below HB4W.out)
  have HR4 := hide (HPX.out W4 (HB2W.out.trans (HB4W.out.mono HB2W.out.size))).2.2
  have HBE4 := hide (HB0.out.trans ((HB2W.out.trans (HB4W.out.mono HB2W.out.size)).mono HB0.out.size))
  generalize hgx : w2.heap.size = gx at *
  generalize hgy : w4.heap.size = gy at *
  go_loopg [] (val b) (PairM B P d w gx gy)
  case atStart => exact ⟨val a, x0, xn, xp, xl, xc, y0, yn, yp, yl, yc, ⟨HX4.out, HY4.out, HR4.out⟩, ⟨⟨false, _, HZ14.out, by rw [val_trimL]; rfl⟩, ⟨false, _, HZ2.out, by rw [val_trimL]; rfl⟩⟩, HVP.out, HD.out, HBE4.out⟩
  case round =>
    clear HX4 HY4 HR4 HZ14 HZ2 HBE4 HB4W HS4 HX2 HZ1 HB2W
    obtain ⟨X, x0, xn, xp, xl, xc, y0, yn, yp, yl, yc, ⟨hX, hY, hR⟩, ⟨hnx, hny⟩, ⟨hXP, hkP⟩, hg, hB⟩ := hrel
    rw [← HP.out] at hXP hkP
    obtain ⟨nx, tx, hzx, hsx, hvx, hlx⟩ := isN_shape2 N hnx hXP
    obtain ⟨ny, ty, hzy, hsy, hvy, hly⟩ := isN_shape2 N hny hkP
    have hzr := zero_of_isZ hzy
    rw [hvy] at hzr
    have HZR := hide hzr
    have HZX : Hid (∀ W, Below wr.heap.size wr W → IsZ B W (.agg #[.int .i64 x0, .bool xn, .slice xp xl xc]) nx tx) := fun W hW => hzx.below hW
    have HZY : Hid (∀ W, Below wr.heap.size wr W → IsZ B W (.agg #[.int .i64 y0, .bool yn, .slice yp yl yc]) ny ty) := fun W hW => hzy.below hW
    have HSV : Hid ((sg nx (val tx) = (X : Nat) ∧ sg ny (val ty) = (gk : Nat)) ∧ (tx.length ≤ N ∧ ty.length ≤ N) ∧ val ty = gk ∧ X < 1000000000 ^ N ∧ gk < 1000000000 ^ N) := ⟨⟨hsx, hsy⟩, ⟨hlx, hly⟩, hvy, hXP, hkP⟩
    have HNY : Hid (IsN B wr (.agg #[.int .i64 y0, .bool yn, .slice yp yl yc]) (gk : Nat)) := hny
    have HNX : Hid (IsN B wr (.agg #[.int .i64 x0, .bool xn, .slice xp xl xc]) (X : Nat)) := hnx
    have HGC := hide hg
    have HBR := hide hB
    have HBXS : Hid (∀ W, Below wr.heap.size wr W → BoxV gx W x0 xn xp xl xc ∧ BoxV gy W y0 yn yp yl yc ∧ BoxV (w.heap.size + 2) W 0 false none 0 0) := fun W hW => ⟨hX.below hX.lt hW, hY.below hY.lt hW, hR.below hR.lt hW⟩
    have q0 := hY.c0
    have q1 := hY.c1
    have q2 := hY.c2
    clear hzx hzy hsx hsy hvx hvy hlx hly hXP hkP hny hnx hg hB hX hY hR hzr
    go_wp2_with fail
    refine (l1Zero_ex _ _ _ _ _ _).mono ?_
    rintro e w5 ⟨rfl, hb5⟩
    rw [HZR.out]
    have HB5 := hide hb5
    obtain ⟨⟨_, a0', a1', a2', af, _⟩, ⟨_, b0', b1', b2', bf, _⟩, ⟨_, r0', r1', r2', rf, _⟩⟩ := HBXS.out w5 hb5
    clear hb5 q0 q1 q2
    by_cases hk0 : gk = 0
    · have f0 := rf 0
      have f1 := rf 1
      have f2 := rf 2
      have HEND : Hid (X = d) := by
        have := HGC.out
        rw [hk0, Nat.gcd_zero_right] at this
        exact this
      clear af bf rf
      go_wp2
      have hN5 := HNX.out.below HB5.out
      rw [HEND.out] at hN5
      have hR5 := (HBXS.out w5 HB5.out).2.2
      have hput := hR5.put x0 xn xp xl xc
      have hNE := hN5.keeps hR5.n hR5.n (Keeps.three w5 (w.heap.size + 2) (.int .i64 x0) (.bool xn) (.slice xp xl xc))
      have hBE := set3 (HBR.out.trans (HB5.out.mono HBR.out.size)) (w.heap.size + 2) (by omega) (.int .i64 x0) (.bool xn) (.slice xp xl xc)
      have k0 := hput.c0
      have k1 := hput.c1
      have k2 := hput.c2
      have e2 : w.heap.size + 1 + 1 = w.heap.size + 2 := rfl
      rw [e2]
      generalize ((w5.setCell ⟨w.heap.size + 2, 0, none⟩ (.int .i64 x0)).setCell ⟨w.heap.size + 2, 1, none⟩ (.bool xn)).setCell ⟨w.heap.size + 2, 2, none⟩ (.slice xp xl xc) = WE at *
      refine bodyPost_ret (v := .agg #[.int .i64 x0, .bool xn, .slice xp xl xc]) ?_ rfl ⟨_, rfl, hNE, hBE⟩
      simp [results, Tryd.results11, go_sem, k0, k1, k2]
    · go_wp2_with fail
      refine (l1Div_any B _ _ nx ny tx ty _ (by have := HBW.out; have := HBR.out.size; have := HB5.out.size; omega) (HZX.out _ HB5.out) (HZY.out _ HB5.out) (by have := HSV.out.2.1; omega) (by have := HSV.out.2.1; omega) (fun h => hk0 (by have := HSV.out.2.2.1; rw [h] at this; simpa [val] using this.symm))).mono ?_
      rintro e w6 ⟨z1, z2, q, r, rfl, ⟨hn1, hn2⟩, hdv, hb6⟩
      rw [HSV.out.1.1, HSV.out.1.2] at hdv
      obtain ⟨m0, mn, mp, ml, mc, rfl⟩ := hn1.shape
      obtain ⟨u0, un, up, ul, uc, rfl⟩ := hn2.shape
      obtain ⟨hd1, hd2, hd3⟩ := hdv
      obtain ⟨R, rfl⟩ := Int.eq_ofNat_of_zero_le hd2
      have hRk : R < gk := by simpa using hd3
      have HRK : Hid (R < gk ∧ Nat.gcd gk R = d) := ⟨hRk, (gcd_emod X gk R q hd1 hRk).trans HGC.out⟩
      obtain ⟨W6, hW6⟩ : ∃ W6, (w6.alloc (.cells #[.int .i64 m0, .bool mn, .slice mp ml mc] 28)).alloc (.cells #[.int .i64 u0, .bool un, .slice up ul uc] 28) = W6 := ⟨_, rfl⟩
      have hB6 : Below w6.heap.size w6 W6 := by rw [← hW6]; exact below_al (below_alloc _ _) _
      have hU : BoxV (w6.heap.size + 1) W6 u0 un up ul uc := by rw [← hW6]; exact boxV_new' _ _ (by simp) _ _ _ _ _ _
      have hBB : Below wr.heap.size wr W6 := HB5.out.trans ((hb6.trans (hB6.mono hb6.size)).mono HB5.out.size)
      have hNU : IsN B W6 (.agg #[.int .i64 u0, .bool un, .slice up ul uc]) (R : Nat) := (hn2.below hB6).mono (by have := HBW.out; have := HBR.out.size; have := HB5.out.size; omega)
      have hNY := HNY.out.below hBB
      obtain ⟨hX6, hY6, hR6⟩ := HBXS.out W6 hBB
      have hg6 : gy < w6.heap.size := by
        have h1 := (HBXS.out w5 HB5.out).2.1.lt
        have h2 := hb6.size
        omega
      have HW6 := hide hW6
      have HFIN : Hid (PairM B P d w gx gy R ((((((W6.setCell ⟨gx, 0, none⟩ (.int .i64 y0)).setCell ⟨gx, 1, none⟩ (.bool yn)).setCell ⟨gx, 2, none⟩ (.slice yp yl yc)).setCell ⟨gy, 0, none⟩ (.int .i64 u0)).setCell ⟨gy, 1, none⟩ (.bool un)).setCell ⟨gy, 2, none⟩ (.slice up ul uc))) := by
        have k7 := Keeps.three W6 gx (.int .i64 y0) (.bool yn) (.slice yp yl yc)
        have hX7 := hX6.put y0 yn yp yl yc
        have hY7 := hY6.other (show gy ≠ gx by omega) k7
        have hR7 := hR6.other (show w.heap.size + 2 ≠ gx by omega) k7
        have hNY7 := hNY.keeps hX6.n hX6.n k7
        have hNU7 := hNU.keeps hX6.n hX6.n k7
        have hB7 := set3 (HBR.out.trans (hBB.mono HBR.out.size)) gx (by omega) (.int .i64 y0) (.bool yn) (.slice yp yl yc)
        generalize ((W6.setCell ⟨gx, 0, none⟩ (.int .i64 y0)).setCell ⟨gx, 1, none⟩ (.bool yn)).setCell ⟨gx, 2, none⟩ (.slice yp yl yc) = W7 at *
        have k8 := Keeps.three W7 gy (.int .i64 u0) (.bool un) (.slice up ul uc)
        have hX8 := hX7.other (show gx ≠ gy by omega) k8
        have hY8 := hY7.put u0 un up ul uc
        have hR8 := hR7.other (show w.heap.size + 2 ≠ gy by omega) k8
        have hNY8 := hNY7.keeps hY7.n hY7.n k8
        have hNU8 := hNU7.keeps hY7.n hY7.n k8
        have hB8 := set3 hB7 gy (by omega) (.int .i64 u0) (.bool un) (.slice up ul uc)
        have hPP := HSV.out.2.2.2.2
        rw [HP.out] at hPP
        exact ⟨gk, y0, yn, yp, yl, yc, u0, un, up, ul, uc, ⟨hX8, hY8, hR8⟩, ⟨hNY8, hNU8⟩, ⟨hPP, by omega⟩, HRK.out.2, hB8⟩
      obtain ⟨_, x0', x1', x2', xf, _⟩ := hX6
      obtain ⟨_, y0', y1', y2', yf, _⟩ := hY6
      obtain ⟨hlu, u0', u1', u2', _, _⟩ := hU
      have fx0 := xf 0
      have fx1 := xf 1
      have fx2 := xf 2
      have fy0 := yf 0
      have fy1 := yf 1
      have fy2 := yf 2
      have ne1 : gx ≠ gy := by omega
      have ne2 : gx ≠ w6.heap.size + 1 := by omega
      have ne3 : gy ≠ w6.heap.size + 1 := by omega
      clear a0' a1' a2' b0' b1' b2' r0' r1' r2' af bf rf xf yf hn1 hn2 hd1 hd2 hd3 hb6 hB6 hBB hNU hNY hR6 hW6
      go_upto_region 5 with fail
      rw [HW6.out]
      go_wp2
      go_roundg R
      case measure => exact HRK.out.1
      case rel => exact HFIN.out
end Go.Proofs.YtpjnglcojamfmaaDoor
