import Derived.Test.YtfmpapcfhoomkaaGreatDoorGcdSpecp
import Derived.Test.YtfmpapcfhoomkaaGreatDoorK1p
import Derived.Test.YtfmpapcfhoomkaaGreatDoorCmpXYp
namespace Go.Proofs.YtfmpapcfhoomkaaGreatDoor
open Go.ChangeShapes Go.WideShapes Go.ChangeAt Go.RowKit
theorem isN_one {B : Nat} {w : World} {g0 : Int} {gn : Bool} {ga : Option Addr} {gl gc : Nat} {G : Int} (h : IsN B w (.agg #[.int .i64 g0, .bool gn, .slice ga gl gc]) G) : (((gl : Int) == 0) && (g0 == 1)) = decide (G = 1) := by
 obtain ⟨neg, t, ⟨hok, htr, hz⟩, hx⟩ := h
 rcases hz with ⟨h2, v, e, ⟨p, c, rfl, _⟩⟩ | ⟨h2, e⟩
 ·simp only [Value.agg.injEq, Array.mk.injEq, List.cons.injEq, Value.slice.injEq, and_true] at e; have hl : gl = t.length := e.2.2.2.1; have hne : t ≠ [] := by rintro rfl; simp at h2
  have h3 := val_ge t htr hne; have h4 : 1000000000 ^ 2 ≤ 1000000000 ^ (t.length - 1) := Nat.pow_le_pow_right (by decide) (by omega); have h5 : (1000000000 : Nat) ^ 2 = 1000000000000000000 := by decide
  have hG : G ≠ 1 := by
   rw [← hx]
   cases neg <;> simp [sg] <;> omega
  have hz : ((gl : Int) == 0) = false := by rw [beq_eq_false_iff_ne]; omega
  rw [hz, decide_eq_false hG]; rfl
 simp only [Value.agg.injEq, Array.mk.injEq, List.cons.injEq, Value.slice.injEq, Value.int.injEq, and_true, true_and] at e; have hg : g0 = sg neg (val t) := e.1; have hl : gl = 0 := e.2.2.2.1; subst hl hg; rw [hx]
 by_cases hG : G = 1
 ·subst hG; rfl
 have : (G == 1) = false := by rw [beq_eq_false_iff_ne]; exact hG
 rw [this, decide_eq_false hG]; rfl
theorem isNeg_at (q : ByteArray) (h : 0 < q.size) : ((q[0].toNat : Int) == 45) = isNeg q := by
 unfold isNeg; have e : (q.extract 0 1).toList = [q[0]] := by
  rw [ByteArray.toList_eq, ByteArray.data_extract, Array.toList_extract]
  show (q.data.toList.drop 0).take (1 - 0) = [q[0]]
  have hl : 0 < q.data.toList.length := by simpa using h
  cases hq : q.data.toList with
  | nil => rw [hq] at hl; simp at hl
  | cons c l =>
    have : q[0] = c := by
     have h1 : q.data.toList[0]? = some q[0] := by rw [List.getElem?_eq_getElem hl]; rfl
     rw [hq] at h1
     simpa using h1.symm
    rw [this]; rfl
 rw [e]
 by_cases hc : q[0] = 45
 ·rw [hc]; rfl
 have h1 : ((q[0].toNat : Int) == 45) = false := by
  rw [beq_eq_false_iff_ne]; intro e2; exact hc (UInt8.toNat_inj.1 (by have e3 : (45 : UInt8).toNat = 45 := rfl; omega))
 have h2 : ([q[0]] == [45]) = false := by simp [hc]
 rw [h1, h2]
theorem eqB (a : ByteArray) (c : UInt8) : (a.toList == [c]) = decide (a = strB [c]) := by
 have : (strB [c]).toList = [c] := by rw [ByteArray.toList_eq]; rfl
 have h := toList_inj (a := a) (b := strB [c]); rw [this] at h; exact h
set_option maxRecDepth 100000 in
set_option maxHeartbeats 2000000 in
theorem specIsRat_any (s : ByteArray) (w : World) (hs : s.size ≤ maxLen) :
 Calls Tryz.prog 57 #[.string s] w fun e w' => ∃ b, e = .returned (.bool b) ∧ IsRatB s b ∧ Up w w' := by
 obtain ⟨k, hk⟩ := isCut_ex s; have HK := Hd hk; clear hk
 cases k with
 | none =>
   go_enter Tryz.func57, Tryz.ntmps57
   go_wp2_with fail
   refine (l2Cut_any s none _ hs HK.o).mono ?_; rintro e w' ⟨rfl, hw'⟩; subst hw'; have e1 : cutI none = -1 := rfl; rw [e1]
   go_wp2_with fail
   refine (isInt_spec s _ hs).mono ?_; rintro e w2 ⟨rfl, hw2⟩; subst hw2; obtain ⟨b, hb⟩ := exW (isIntB s); have HB := Hd hb; rw [hb]; clear hb
   go_wp2
   go_ret
   refine ⟨_, rfl, ⟨none, HK.o, ?_⟩, Below.refl _ _⟩; constructor
   ·intro e; exact ⟨numT s, 1, HB.o.trans e, rfl, rfl⟩
   ·rintro ⟨x, y, h, _⟩; rw [← HB.o]; exact h
 | some i =>
   have hi := isCut_lt HK.o; have hcp : s.extract 0 i = cutP s (some i) := rfl; have hcq : s.extract (i + 1) s.size = cutQ s (some i) := rfl; obtain ⟨p, hp⟩ := exW (cutP s (some i)); obtain ⟨q, hq⟩ := exW (cutQ s (some i)); have HPQ : Hid (cutP s (some i) = p ∧ cutQ s (some i) = q) := ⟨hp, hq⟩; rw [hp] at hcp; rw [hq] at hcq; have hps : p.size ≤ maxLen := by rw [← hcp, ByteArray.size_extract]; omega
   have hqs : q.size ≤ maxLen := by rw [← hcq, ByteArray.size_extract]; omega
   have HSZ : Hid (p.size ≤ maxLen ∧ q.size ≤ maxLen) := ⟨hps, hqs⟩; unfold maxLen at hs; clear hp hq hps hqs
   go_enter Tryz.func57, Tryz.ntmps57
   go_wp2_with fail
   refine (l2Cut_any s (some i) _ (by unfold maxLen; exact hs) HK.o).mono ?_; rintro e w' ⟨rfl, hw'⟩; subst hw'; have e1 : cutI (some i) = (i : Int) := rfl; rw [e1]; have HNOT : Hid ((¬ ∃ x y, RatV s (some i) x y) → IsRatB s false) := fun h => ⟨some i, HK.o, ⟨(fun e => by cases e), fun hx => (h hx).elim⟩⟩
   go_wp2_with fail
   refine (isInt_spec p _ HSZ.o.1).mono ?_; rintro e w2 ⟨rfl, hw2⟩; subst hw2
   cases hip : isIntB p
   ·have HIP := Hd hip; clear hip; have HF : Hid (IsRatB s false) := HNOT.o (fun ⟨x, y, h⟩ => by
     have h1 := h.1.1; rw [HPQ.o.1, HIP.o] at h1
     cases h1)
    go_wp2
    go_ret
    exact ⟨false, rfl, HF.o, Below.refl _ _⟩
   have HIP := Hd hip; clear hip
   go_wp2_with fail
   refine (isInt_spec q _ HSZ.o.2).mono ?_; rintro e w3 ⟨rfl, hw3⟩; subst hw3
   cases hiq : isIntB q
   ·have HIQ := Hd hiq; clear hiq; have HF : Hid (IsRatB s false) := HNOT.o (fun ⟨x, y, h⟩ => by
     have h1 := h.1.2; rw [HPQ.o.2, HIQ.o] at h1
     cases h1)
    go_wp2
    go_ret
    exact ⟨false, rfl, HF.o, Below.refl _ _⟩
   have HIQ := Hd hiq; clear hiq
   cases hp0 : (p.toList == [48])
   case true =>
    have HP0 := Hd hp0; have HF : Hid (IsRatB s false) := HNOT.o (fun ⟨x, y, h⟩ => by
     have h1 := h.2.1.2.1; rw [HPQ.o.1] at h1; exact h1 (of_decide_eq_true ((eqB p 48).symm.trans HP0.o)))
    go_wp2
    go_ret
    exact ⟨false, rfl, HF.o, Below.refl _ _⟩
   case false =>
   have HP0 := Hd hp0
   cases hq0 : (q.toList == [48])
   case true =>
    have HQ0 := Hd hq0; have HF : Hid (IsRatB s false) := HNOT.o (fun ⟨x, y, h⟩ => by
     have h1 := h.2.1.1; rw [HPQ.o.2, of_decide_eq_true ((eqB q 48).symm.trans HQ0.o)] at h1; exact h1 num_nil)
    go_wp2
    go_ret
    exact ⟨false, rfl, HF.o, Below.refl _ _⟩
   case false =>
   have HQ0 := Hd hq0
   cases hq1 : (q.toList == [49])
   case true =>
    have HQ1 := Hd hq1; have HF : Hid (IsRatB s false) := HNOT.o (fun ⟨x, y, h⟩ => by
     have h1 := h.2.1.2.2.1; rw [HPQ.o.2] at h1; exact h1 (of_decide_eq_true ((eqB q 49).symm.trans HQ1.o)))
    go_wp2
    go_ret
    exact ⟨false, rfl, HF.o, Below.refl _ _⟩
   case false =>
   have HQ1 := Hd hq1; have hqp : 0 < q.size := Nat.pos_of_ne_zero fun h => text_ne q HIQ.o (ByteArray.ext (by
    have : q.data.size = 0 := h; rw [Array.eq_empty_of_size_eq_zero this]; rfl))
   have hat := isNeg_at q hqp
   cases hneg : isNeg q
   case true =>
    have HNG := Hd hneg; rw [hneg] at hat; have HF : Hid (IsRatB s false) := HNOT.o (fun ⟨x, y, h⟩ => by
     have h1 := h.2.1.2.2.2.1; rw [HPQ.o.2, HNG.o] at h1
     cases h1)
    go_wp2
    go_ret
    exact ⟨false, rfl, HF.o, Below.refl _ _⟩
   case false =>
   have HNG := Hd hneg; rw [hneg] at hat; clear hneg; have HLL : Hid ((lim p).length ≤ 100000 ∧ (lim q).length ≤ 100000) := ⟨by have := lim_len' p HIP.o; omega, by have := lim_len' q HIQ.o; omega⟩; obtain ⟨w0, hw0⟩ : ∃ w0 : World, w0 = w3 := ⟨_, rfl⟩; have HW0 := Hd hw0; clear hw0
   go_wp2_with fail
   refine (l1Read_any p _ HIP.o).mono ?_; rintro e w4 ⟨z1, rfl, hz1, hb4⟩; have HZ1 : Hid (IsZ w3.heap.size w4 z1 (isNeg p) (lim p)) := hz1; have HB4 := Hd hb4; clear hz1 hb4
   go_wp2_with fail
   refine (l1Read_any q _ HIQ.o).mono ?_; rintro e w5 ⟨z2, rfl, hz2, hb5⟩; have HZ2 : Hid (IsZ w3.heap.size w5 z2 (isNeg q) (lim q)) := hz2.mono HB4.o.size; have HZ1' : Hid (IsZ w3.heap.size w5 z1 (isNeg p) (lim p)) := HZ1.o.below hb5; have HB5 : Hid (Up w3 w5) := HB4.o.trans (hb5.mono HB4.o.size); clear hz2 hb5
   go_wp2_with fail
   refine (l1Gcd_any _ z1 z2 _ _ _ _ 100000 _ HB5.o.size HZ1'.o HZ2.o HLL.o.1 HLL.o.2 leR).mono ?_; rintro e w6 ⟨z3, rfl, hn3, hb6⟩; obtain ⟨g0, gn, ga, gl, gc, rfl⟩ := hn3.shape; have HONE := Hd (isN_one hn3); have HB6 : Hid (Up w3 w6) := HB5.o.trans (hb6.mono HB5.o.size); obtain ⟨W7, hW7⟩ := exW (w6.alloc (.cells #[.int .i64 g0, .bool gn, .slice ga gl gc] 54)); have HW7 := Hd hW7; have hb7 : Up w6 W7 := by rw [← hW7]; exact below_alloc _ _
   have hgx : Bx W7 w6.heap.size [.int .i64 g0, .bool gn, .slice ga gl gc] := by rw [← hW7]; exact bx_new w6 _ _
   have HB7 : Hid (Up w3 W7) := HB6.o.trans (hb7.mono HB6.o.size); have HGX : Hid (∀ W, Up W7 W → Bx W w6.heap.size [.int .i64 g0, .bool gn, .slice ga gl gc]) := fun W hW => hgx.below hgx.lt hW; obtain ⟨k0, k1, k2⟩ := hgx.c3; have HRES : Hid (∀ r, decide (gcdI (sg (isNeg p) (val (lim p))) (sg (isNeg q) (val (lim q))) = 1) = r → IsRatB s r) := fun r hr => by
    refine ⟨some i, HK.o, ?_⟩; rw [← hr, decide_eq_true_eq]; have hg : gcdI (sg (isNeg p) (val (lim p))) (sg (isNeg q) (val (lim q))) = ((Int.gcd (numT p) (numT q) : Nat) : Int) := rfl; rw [hg]; constructor
    ·intro h1; refine ⟨numT p, numT q, ?_⟩
     show (isIntB (cutP s (some i)) = true ∧ isIntB (cutQ s (some i)) = true) ∧ _
     rw [HPQ.o.1, HPQ.o.2]; refine ⟨⟨HIP.o, HIQ.o⟩, ⟨?_, ?_, ?_, HNG.o, by omega⟩, rfl, rfl⟩
     ·intro h2; have h3 := numT_inj q (strB [48]) HIQ.o (by kernel_rfl) (by rw [h2, num_nil]); have h4 := (eqB q 48).symm.trans HQ0.o; exact (of_decide_eq_false h4) h3
     ·exact of_decide_eq_false ((eqB p 48).symm.trans HP0.o)
     ·exact of_decide_eq_false ((eqB q 49).symm.trans HQ1.o)
    ·rintro ⟨x, y, _, ⟨_, _, _, _, h5⟩, _⟩; rw [HPQ.o.1, HPQ.o.2] at h5; rw [h5]; rfl
   clear hn3 hb6 hW7 hb7 hgx
   go_upto_region 10 with fail
   rw [HW7.o]; refine (l1IsSmall_ex g0 gn ga gl gc W7).mono ?_; rintro e w8 ⟨rfl, hw8⟩; have hb8 : Up W7 w8 := by rw [hw8]; exact below_alloc _ _
   have HB8 : Hid (Up w3 w8) := HB7.o.trans (hb8.mono HB7.o.size); have hx8 := HGX.o w8 hb8; have j0 := hx8.cell 0; simp only [List.getElem?_cons_zero] at j0; clear hw8 hb8 hx8 k0 k1 k2
   by_cases hz : gl = 0
   ·have z : ((gl : Int) == 0) = true := by rw [beq_iff_eq]; omega
    have HE : Hid ((g0 == 1) = decide (gcdI (sg (isNeg p) (val (lim p))) (sg (isNeg q) (val (lim q))) = 1)) := by
     have h := HONE.o; rw [z] at h; exact h
    rw [z]
    go_wp2
    go_ret
    exact ⟨_, rfl, HRES.o _ HE.o.symm, HB8.o⟩
   ·have z : ((gl : Int) == 0) = false := by rw [beq_eq_false_iff_ne]; omega
    have HE : Hid (decide (gcdI (sg (isNeg p) (val (lim p))) (sg (isNeg q) (val (lim q))) = 1) = false) := by
     have h := HONE.o; rw [z] at h; exact h.symm
    rw [z]
    go_wp2
    go_ret
    exact ⟨_, rfl, HRES.o _ HE.o, HB8.o⟩
def IsQN (B : Nat) (w : World) (z : Value) (x y : Int) : Prop := ∃ (p0 : Int) (pn : Bool) (pa : Option Addr) (pl pc : Nat) (q0 : Int) (qn : Bool) (qa : Option Addr) (ql qc : Nat), z = .agg #[.int .i64 p0, .bool pn, .slice pa pl pc, .int .i64 q0, .bool qn, .slice qa ql qc] ∧
 NumZ B w (.agg #[.int .i64 p0, .bool pn, .slice pa pl pc]) x 1000 ∧ NumZ B w (.agg #[.int .i64 q0, .bool qn, .slice qa ql qc]) y 1000
theorem NumZ.keeps {B : Nat} {w W : World} {z : Value} {x : Int} {n : Nat} {g h : Nat} (hl : NumZ B w z x n) (n1 : NoInt w g) (n2 : NoInt w h) (k : Keeps g h w W) : NumZ B W z x n := by
 obtain ⟨neg, t, ⟨hok, htr, hz⟩, hx⟩ := hl; refine ⟨neg, t, ⟨hok, htr, ?_⟩, hx⟩
 rcases hz with ⟨h2, v, hv, hL⟩ | hz
 ·exact .inl ⟨h2, v, hv, hL.keeps n1 n2 k⟩
 exact .inr hz
theorem NumZ.mono' {B B' : Nat} {w : World} {z : Value} {x : Int} {n n' : Nat} (h : NumZ B w z x n) (hb : B' ≤ B) (hn : n ≤ n') : NumZ B' w z x n' := by
 obtain ⟨neg, t, h1, h2, h3⟩ := h; exact ⟨neg, t, h1.mono hb, h2, by omega⟩
theorem NumZ.shape' {B : Nat} {w : World} {z : Value} {x : Int} {n : Nat} (h : NumZ B w z x n) : ∃ (z0 : Int) (zn : Bool) (za : Option Addr) (zl zc : Nat), z = .agg #[.int .i64 z0, .bool zn, .slice za zl zc] := by
 obtain ⟨neg, t, h1, _⟩ := h; exact h1.shape
def W6 (W : World) (g : Nat) (u0 u1 u2 u3 u4 u5 : Value) : World := (((((W.setCell ⟨g, 0, none⟩ u0).setCell ⟨g, 1, none⟩ u1).setCell ⟨g, 2, none⟩ u2).setCell ⟨g, 3, none⟩ u3).setCell ⟨g, 4, none⟩ u4).setCell ⟨g, 5, none⟩ u5
theorem keeps6 (W : World) (g : Nat) (u0 u1 u2 u3 u4 u5 : Value) : Keeps g g W (W6 W g u0 u1 u2 u3 u4 u5) :=
 Keeps.setCell (Keeps.setCell (Keeps.setCell (Keeps.setCell (Keeps.setCell (Keeps.setCell (Keeps.refl g g W) ⟨g, 0, none⟩ u0 (Or.inl rfl)) ⟨g, 1, none⟩ u1 (Or.inl rfl)) ⟨g, 2, none⟩ u2 (Or.inl rfl)) ⟨g, 3, none⟩ u3 (Or.inl rfl)) ⟨g, 4, none⟩ u4 (Or.inl rfl)) ⟨g, 5, none⟩ u5 (Or.inl rfl)
theorem set6 {N : Nat} {w W : World} (h : Below N w W) (g : Nat) (hg : N ≤ g) (u0 u1 u2 u3 u4 u5 : Value) : Below N w (W6 W g u0 u1 u2 u3 u4 u5) :=
 (((((h.setCell (p := ⟨g, 0, none⟩) hg u0).setCell (p := ⟨g, 1, none⟩) hg u1).setCell (p := ⟨g, 2, none⟩) hg u2).setCell (p := ⟨g, 3, none⟩) hg u3).setCell (p := ⟨g, 4, none⟩) hg u4).setCell (p := ⟨g, 5, none⟩) hg u5
theorem Bx.put6 {W : World} {g : Nat} {a b c d e f : Value} (h : Bx W g [a, b, c, d, e, f]) (u0 u1 u2 u3 u4 u5 : Value) : Bx (W6 W g u0 u1 u2 u3 u4 u5) g [u0, u1, u2, u3, u4, u5] := (((((h.set 0 u0).set 1 u1).set 2 u2).set 3 u3).set 4 u4).set 5 u5
set_option maxRecDepth 100000 in
set_option maxHeartbeats 1000000 in
theorem l2OfZ_any (B : Nat) (a0 : Int) (an : Bool) (aa : Option Addr) (al ac : Nat) (x : Int) (w : World) (hBw : B ≤ w.heap.size) (h : NumZ B w (.agg #[.int .i64 a0, .bool an, .slice aa al ac]) x 1000) :
 Calls Tryz.prog 114 #[.agg #[.int .i64 a0, .bool an, .slice aa al ac]] w fun e w' => ∃ z, e = .returned z ∧ IsQN B w' z x 1 ∧ Up w w' := by
 have HN := Hd h; have HBW := Hd hBw; clear h hBw; obtain ⟨W0, hW0⟩ := exW ((w.alloc (.cells #[.int .i64 a0, .bool an, .slice aa al ac] 54)).alloc (.cells #[.int .i64 0, .bool false, .slice none 0 0, .int .i64 0, .bool false, .slice none 0 0] 70)); have HW0 := Hd hW0; have HB0 : Hid (Up w W0) := by
  unfold Hid
  rw [← hW0]; exact below_al (below_alloc _ _) _
 have hx1 : Bx W0 w.heap.size [.int .i64 a0, .bool an, .slice aa al ac] := by rw [← hW0]; exact (bx_new w _ _).alloc _
 have hx2 : Bx W0 (w.heap.size + 1) [.int .i64 0, .bool false, .slice none 0 0, .int .i64 0, .bool false, .slice none 0 0] := by
  rw [← hW0]; have h := bx_new (w.alloc (.cells #[.int .i64 a0, .bool an, .slice aa al ac] 54)) [.int .i64 0, .bool false, .slice none 0 0, .int .i64 0, .bool false, .slice none 0 0] 70; rw [World.size_alloc] at h; exact h
 have HX : Hid (∀ W, Up W0 W → Bx W w.heap.size [.int .i64 a0, .bool an, .slice aa al ac] ∧ Bx W (w.heap.size + 1) [.int .i64 0, .bool false, .slice none 0 0, .int .i64 0, .bool false, .slice none 0 0]) := fun W hW => ⟨hx1.below hx1.lt hW, hx2.below hx2.lt hW⟩; clear hW0; obtain ⟨k0, k1, k2⟩ := hx1.c3; clear hx1 hx2
 go_enter Tryz.func114, Tryz.ntmps114
 go_upto_region 1 with fail
 rw [HW0.o]
 go_region_with (first
  | (go_at_call 67
     refine (l1Small_any 1 _ (by decide) (by decide)).mono ?_; rintro e w1 ⟨z, rfl, hz, hb1⟩; have HB1 : Hid (Up W0 w1) := (Below.refl _ W0).drew.trans hb1; obtain ⟨q0, qn, qa, ql, qc, rfl⟩ := hz.shape'; have HZ : Hid (NumZ W0.heap.size w1 (.agg #[.int .i64 q0, .bool qn, .slice qa ql qc]) 1 3) := hz; obtain ⟨hy1, hy2⟩ := HX.o w1 HB1.o; obtain ⟨j0, j1, j2⟩ := hy1.c3; obtain ⟨r0, r1, r2, r3, r4, r5⟩ := hy2.c6; obtain ⟨f0, f1, f2, f3, f4, f5⟩ := hy2.f6; clear hz hb1 hy1 hy2))
 all_goals
  try simp only [List.getElem_toArray, List.getElem_cons_succ, List.getElem_cons_zero, Act.put, List.setIfInBounds_toArray, List.set_cons_succ, List.set_cons_zero]
  go_wp2
  have hbw := (HX.o w1 HB1.o).2; have hnR : NoInt w1 (w.heap.size + 1) := noInt_of hbw (by simp); have hk := keeps6 w1 (w.heap.size + 1) (.int .i64 a0) (.bool an) (.slice aa al ac) (.int .i64 q0) (.bool qn) (.slice qa ql qc); have hP9 := (HN.o.below (HB0.o.trans (HB1.o.mono HB0.o.size))).keeps hnR hnR hk; have hQ9 := (HZ.o.mono' (B' := B) (n' := 1000) (by have := HBW.o; have := HB0.o.size; omega) (by omega)).keeps hnR hnR hk; have hB9 := set6 (HB0.o.trans (HB1.o.mono HB0.o.size)) (w.heap.size + 1) (Nat.le_succ _) (.int .i64 a0) (.bool an) (.slice aa al ac) (.int .i64 q0) (.bool qn) (.slice qa ql qc); have hZ := hbw.put6 (.int .i64 a0) (.bool an) (.slice aa al ac) (.int .i64 q0) (.bool qn) (.slice qa ql qc); have hWW : (((((w1.setCell ⟨w.heap.size + 1, 0, none⟩ (.int .i64 a0)).setCell ⟨w.heap.size + 1, 1, none⟩ (.bool an)).setCell ⟨w.heap.size + 1, 2, none⟩ (.slice aa al ac)).setCell ⟨w.heap.size + 1, 3, none⟩ (.int .i64 q0)).setCell ⟨w.heap.size + 1, 4, none⟩ (.bool qn)).setCell ⟨w.heap.size + 1, 5, none⟩ (.slice qa ql qc) = W6 w1 (w.heap.size + 1) (.int .i64 a0) (.bool an) (.slice aa al ac) (.int .i64 q0) (.bool qn) (.slice qa ql qc) := rfl; rw [hWW]; generalize W6 w1 (w.heap.size + 1) (.int .i64 a0) (.bool an) (.slice aa al ac) (.int .i64 q0) (.bool qn) (.slice qa ql qc) = W9 at *; obtain ⟨m0, m1, m2, m3, m4, m5⟩ := hZ.c6; refine bodyPost_ret (v := .agg #[.int .i64 a0, .bool an, .slice aa al ac, .int .i64 q0, .bool qn, .slice qa ql qc]) ?_ rfl ⟨_, rfl, ⟨a0, an, aa, al, ac, q0, qn, qa, ql, qc, rfl, hP9, hQ9⟩, hB9⟩; simp [results, Tryz.results114, go_sem, m0, m1, m2, m3, m4, m5]
theorem NumZ.isN {B : Nat} {w : World} {z : Value} {x : Int} {n : Nat} (h : NumZ B w z x n) : IsN B w z x := by
 obtain ⟨neg, t, h1, h2, _⟩ := h; exact ⟨neg, t, h1, h2⟩
set_option maxRecDepth 100000 in
set_option maxHeartbeats 1000000 in
theorem l2Whole_any (B : Nat) (z : Value) (x y : Int) (w : World) (_hBw : B ≤ w.heap.size) (h : IsQN B w z x y) :
 Calls Tryz.prog 115 #[z] w fun e w' => e = .returned (.bool (decide (y = 1))) ∧ Up w w' := by
 obtain ⟨p0, pn, pa, pl, pc, q0, qn, qa, ql, qc, rfl, hP, hQ⟩ := h; have HONE := Hd (isN_one hQ.isN); clear hP hQ; obtain ⟨W0, hW0⟩ := exW (w.alloc (.cells #[.int .i64 p0, .bool pn, .slice pa pl pc, .int .i64 q0, .bool qn, .slice qa ql qc] 70)); have HW0 := Hd hW0; have HB0 : Hid (Up w W0) := by unfold Hid; rw [← hW0]; exact below_alloc _ _
 have hx1 : Bx W0 w.heap.size [.int .i64 p0, .bool pn, .slice pa pl pc, .int .i64 q0, .bool qn, .slice qa ql qc] := by rw [← hW0]; exact bx_new w _ _
 have HX : Hid (∀ W, Up W0 W → Bx W w.heap.size [.int .i64 p0, .bool pn, .slice pa pl pc, .int .i64 q0, .bool qn, .slice qa ql qc]) := fun W hW => hx1.below hx1.lt hW; have k3 := hx1.cell 3; have k4 := hx1.cell 4; have k5 := hx1.cell 5; simp only [List.getElem?_cons_zero, List.getElem?_cons_succ] at k3 k4 k5; clear hW0 hx1
 go_enter Tryz.func115, Tryz.ntmps115
 go_upto_region 1 with fail
 rw [HW0.o]
 go_wp2_with fail
 refine (l1IsSmall_ex q0 qn qa ql qc W0).mono ?_; rintro e w1 ⟨rfl, hw1⟩; have hb1 : Up W0 w1 := by rw [hw1]; exact below_alloc _ _
 have HB1 : Hid (Up w w1) := HB0.o.trans (hb1.mono HB0.o.size); have hx := HX.o w1 hb1; have j3 := hx.cell 3; simp only [List.getElem?_cons_zero, List.getElem?_cons_succ] at j3; clear hw1 hb1 hx k3 k4 k5
 by_cases hz : ql = 0
 ·have z : ((ql : Int) == 0) = true := by rw [beq_iff_eq]; omega
  have HE : Hid ((q0 == 1) = decide (y = 1)) := by have h := HONE.o; rw [z] at h; exact h
  rw [z]
  go_wp2
  go_ret
  exact ⟨ret_bool HE.o, HB1.o⟩
 have z : ((ql : Int) == 0) = false := by rw [beq_eq_false_iff_ne]; omega
 have HE : Hid (false = decide (y = 1)) := by have h := HONE.o; rw [z] at h; exact h
 rw [z]
 go_wp2
 go_ret
 exact ⟨ret_bool HE.o, HB1.o⟩
set_option maxRecDepth 100000 in
set_option maxHeartbeats 1000000 in
theorem l2Floor_any (B : Nat) (z : Value) (x y : Int) (w : World) (hBw : B ≤ w.heap.size) (h : IsQN B w z x y) (hy : y ≠ 0) :
 Calls Tryz.prog 157 #[z] w fun e w' => ∃ z' q r, e = .returned z' ∧ IsN B w' z' q ∧ IsDiv x y q r ∧ Up w w' := by
 have HQN := Hd h; obtain ⟨p0, pn, pa, pl, pc, q0, qn, qa, ql, qc, rfl, hP, hQ⟩ := h; have HP := Hd hP; have HQ := Hd hQ; have HBW := Hd hBw; clear hP hQ hBw; obtain ⟨W0, hW0⟩ := exW ((w.alloc (.cells #[.int .i64 p0, .bool pn, .slice pa pl pc, .int .i64 q0, .bool qn, .slice qa ql qc] 70)).alloc (.cells #[.int .i64 0, .bool false, .slice none 0 0] 54)); have HW0 := Hd hW0; have HB0 : Hid (Up w W0) := by
  unfold Hid
  rw [← hW0]; exact below_al (below_alloc _ _) _
 have hx1 : Bx W0 w.heap.size [.int .i64 p0, .bool pn, .slice pa pl pc, .int .i64 q0, .bool qn, .slice qa ql qc] := by rw [← hW0]; exact (bx_new w _ _).alloc _
 have hx2 : Bx W0 (w.heap.size + 1) [.int .i64 0, .bool false, .slice none 0 0] := by
  rw [← hW0]; have h := bx_new (w.alloc (.cells #[.int .i64 p0, .bool pn, .slice pa pl pc, .int .i64 q0, .bool qn, .slice qa ql qc] 70)) [.int .i64 0, .bool false, .slice none 0 0] 54; rw [World.size_alloc] at h; exact h
 have HX : Hid (∀ W, Up W0 W → Bx W w.heap.size [.int .i64 p0, .bool pn, .slice pa pl pc, .int .i64 q0, .bool qn, .slice qa ql qc] ∧ Bx W (w.heap.size + 1) [.int .i64 0, .bool false, .slice none 0 0]) := fun W hW => ⟨hx1.below hx1.lt hW, hx2.below hx2.lt hW⟩; obtain ⟨k0, k1, k2, k3, k4, k5⟩ := hx1.c6; clear hW0 hx1 hx2
 go_enter Tryz.func157, Tryz.ntmps157
 go_upto_region 1 with fail
 rw [HW0.o]
 go_wp2_with fail
 have hQ0 : IsQN B W0 (.agg #[.int .i64 p0, .bool pn, .slice pa pl pc, .int .i64 q0, .bool qn, .slice qa ql qc]) x y := ⟨p0, pn, pa, pl, pc, q0, qn, qa, ql, qc, rfl, HP.o.below HB0.o, HQ.o.below HB0.o⟩; refine (l2Whole_any B _ x y W0 (by have := HBW.o; have := HB0.o.size; omega) hQ0).mono ?_; rintro e w1 ⟨rfl, hb1⟩; have HB1 := Hd hb1; have HBW1 := Hd (HB0.o.trans (hb1.mono HB0.o.size)); obtain ⟨hb, hb2⟩ := HX.o w1 hb1; clear k0 k1 k2 k3 k4 k5 hQ0; obtain ⟨k0, k1, k2, k3, k4, k5⟩ := hb.c6; obtain ⟨r0, r1, r2⟩ := hb2.c3; obtain ⟨f0, f1, f2⟩ := hb2.f3; clear hb1 hb hb2
 by_cases h1 : y = 1
 ·have hd : decide (y = 1) = true := decide_eq_true h1; have HDV : Hid (IsDiv x y x 0) := by
   unfold Hid
   rw [h1]; exact ⟨by omega, by decide, by decide⟩
  have HP1 := Hd (HP.o.below HBW1.o).isN; rw [hd]; clear hd
  go_wp2
  have hbw := (HX.o w1 HB1.o).2; have hnR : NoInt w1 (w.heap.size + 1) := noInt_of hbw (by simp); have hN9 := HP1.o.keeps hnR hnR (Keeps.three w1 (w.heap.size + 1) (.int .i64 p0) (.bool pn) (.slice pa pl pc)); have hB9 := belowSet3 (HB0.o.trans (HB1.o.mono HB0.o.size)) (w.heap.size + 1) (Nat.le_succ _) (.int .i64 p0) (.bool pn) (.slice pa pl pc); have hZ : Bx (((w1.setCell ⟨w.heap.size + 1, 0, none⟩ (.int .i64 p0)).setCell ⟨w.heap.size + 1, 1, none⟩ (.bool pn)).setCell ⟨w.heap.size + 1, 2, none⟩ (.slice pa pl pc)) (w.heap.size + 1) [.int .i64 p0, .bool pn, .slice pa pl pc] := ((hbw.set 0 _).set 1 _).set 2 _; generalize ((w1.setCell ⟨w.heap.size + 1, 0, none⟩ (.int .i64 p0)).setCell ⟨w.heap.size + 1, 1, none⟩ (.bool pn)).setCell ⟨w.heap.size + 1, 2, none⟩ (.slice pa pl pc) = W9 at *; obtain ⟨m0, m1, m2⟩ := hZ.c3; refine bodyPost_ret (v := .agg #[.int .i64 p0, .bool pn, .slice pa pl pc]) ?_ rfl ⟨_, x, 0, rfl, hN9, HDV.o, hB9⟩; simp [results, Tryz.results157, go_sem, m0, m1, m2]
 have hd : decide (y = 1) = false := decide_eq_false h1; rw [hd]; clear hd; obtain ⟨ng1, t1, hz1, e1, hl1⟩ := HP.o.below HBW1.o; obtain ⟨ng2, t2, hz2, e2, hl2⟩ := HQ.o.below HBW1.o; have HZZ : Hid (IsZ B w1 (.agg #[.int .i64 p0, .bool pn, .slice pa pl pc]) ng1 t1 ∧ IsZ B w1 (.agg #[.int .i64 q0, .bool qn, .slice qa ql qc]) ng2 t2) := ⟨hz1, hz2⟩; have HEE : Hid (sg ng1 (val t1) = x ∧ sg ng2 (val t2) = y) := ⟨e1, e2⟩; clear hz1 hz2 e1 e2 r0 r1 r2 f0 f1 f2
 go_wp2_with fail
 refine (l1Div_any B _ _ ng1 ng2 t1 t2 _ (by have := HBW.o; have := HBW1.o.size; omega) HZZ.o.1 HZZ.o.2 (by omega) (by omega) (fun h => hy (by rw [← HEE.o.2, h]; cases ng2 <;> rfl))).mono ?_; rintro e w2 ⟨z1, z2, q, r, rfl, ⟨hq, hr⟩, hdv, hb2⟩; rw [HEE.o.1, HEE.o.2] at hdv; have HDV := Hd hdv; obtain ⟨a0, an, aa, al, ac, rfl⟩ := hq.shape; obtain ⟨b0, bn, ba, bl, bc, rfl⟩ := hr.shape; obtain ⟨W3, hW3⟩ := exW ((w2.alloc (.cells #[.int .i64 a0, .bool an, .slice aa al ac] 54)).alloc (.cells #[.int .i64 b0, .bool bn, .slice ba bl bc] 54)); have HW3 := Hd hW3; have hB3 : Up w2 W3 := by rw [← hW3]; exact below_al (below_alloc _ _) _
 have hq3 : Bx W3 w2.heap.size [.int .i64 a0, .bool an, .slice aa al ac] := by rw [← hW3]; exact (bx_new w2 _ _).alloc _
 have HB3 : Hid (Up W0 W3) := HB1.o.trans ((hb2.trans (hB3.mono hb2.size)).mono HB1.o.size); have HQ3 : Hid (IsN B W3 (.agg #[.int .i64 a0, .bool an, .slice aa al ac]) q) := (hq.below hB3).mono (by have := HBW.o; have := HBW1.o.size; omega); obtain ⟨g0, g1, g2⟩ := hq3.c3; have hb2 := (HX.o W3 HB3.o).2; obtain ⟨r0, r1, r2⟩ := hb2.c3; obtain ⟨f0, f1, f2⟩ := hb2.f3; clear hq hr hdv hW3 hB3 hq3 hb2 k0 k1 k2 k3 k4 k5
 go_upto_region 4 with fail
 rw [HW3.o]
 go_wp2
 have hbw := (HX.o W3 HB3.o).2; have hnR : NoInt W3 (w.heap.size + 1) := noInt_of hbw (by simp); have hN9 := HQ3.o.keeps hnR hnR (Keeps.three W3 (w.heap.size + 1) (.int .i64 a0) (.bool an) (.slice aa al ac)); have hB9 := belowSet3 (HB0.o.trans (HB3.o.mono HB0.o.size)) (w.heap.size + 1) (Nat.le_succ _) (.int .i64 a0) (.bool an) (.slice aa al ac); have hZ : Bx (((W3.setCell ⟨w.heap.size + 1, 0, none⟩ (.int .i64 a0)).setCell ⟨w.heap.size + 1, 1, none⟩ (.bool an)).setCell ⟨w.heap.size + 1, 2, none⟩ (.slice aa al ac)) (w.heap.size + 1) [.int .i64 a0, .bool an, .slice aa al ac] := ((hbw.set 0 _).set 1 _).set 2 _; generalize ((W3.setCell ⟨w.heap.size + 1, 0, none⟩ (.int .i64 a0)).setCell ⟨w.heap.size + 1, 1, none⟩ (.bool an)).setCell ⟨w.heap.size + 1, 2, none⟩ (.slice aa al ac) = W9 at *; obtain ⟨m0, m1, m2⟩ := hZ.c3; refine bodyPost_ret (v := .agg #[.int .i64 a0, .bool an, .slice aa al ac]) ?_ rfl ⟨_, q, r, rfl, hN9, HDV.o, hB9⟩; simp [results, Tryz.results157, go_sem, m0, m1, m2]
theorem ordI_lt (x y : Int) : decide (ordI x y < 0) = decide (x < y) := by
 unfold ordI
 split
 ·rename_i h; simp [h]
 rename_i h
 split <;> simp [h]
set_option maxRecDepth 100000 in
set_option maxHeartbeats 1000000 in
theorem l1Sign_any (B : Nat) (z : Value) (x : Int) (n : Nat) (w : World) (hBw : B ≤ w.heap.size) (h : NumZ B w z x n) :
 Calls Tryz.prog 74 #[z] w fun e w' => e = .returned (.int .i64 (ordI x 0)) ∧ Up w w' := by
 obtain ⟨z0, zn, za, zl, zc, rfl⟩ := h.shape'; obtain ⟨neg, t, hz, hx, _⟩ := h; have HZ := Hd hz; have HX := Hd hx; have HBW := Hd hBw; have hzero : ∀ W, IsZ B W (.agg #[.int .i64 0, .bool false, .slice none 0 0]) false [] := fun W => ⟨(fun x hx => by cases hx), (fun h => absurd rfl h), .inr ⟨Nat.zero_le _, rfl⟩⟩; have HZ0 := Hd hzero; clear hz hx hBw hzero
 go_enter Tryz.func74, Tryz.ntmps74
 go_wp2_with fail
 refine (l1Cmp_any B _ _ neg false t [] _ (by have := HBW.o; simp; omega) (HZ.o.below (below_alloc _ _)) (HZ0.o _)).mono ?_; rintro e w1 ⟨rfl, hb1⟩; have e1 : sg false (val []) = 0 := rfl; rw [cmpI_ord neg false t [] HZ.o.1 (HZ0.o w).1 HZ.o.2.1 (HZ0.o w).2.1, HX.o, e1]; have HB1 : Hid (Up w w1) := (below_alloc w _).trans (hb1.mono (by simp)); clear hb1 e1
 go_wp2
 go_ret
 exact ⟨rfl, HB1.o⟩
structure BxL (h : Nat) (W : World) (p0 : Int) (pn : Bool) (pa : Option Addr) (pl pc : Nat) (q0 : Int) (qn : Bool) (qa : Option Addr) (ql qc : Nat) : Prop where
 a : Bx W h [.int .i64 p0, .bool pn, .slice pa pl pc]
 b : Bx W (h + 1) [.int .i64 q0, .bool qn, .slice qa ql qc]
 r : Bx W (h + 1 + 1) [.int .i64 0, .bool false, .slice none 0 0, .int .i64 0, .bool false, .slice none 0 0]
theorem BxL.below {h N : Nat} {W W' : World} {p0 : Int} {pn : Bool} {pa : Option Addr} {pl pc : Nat} {q0 : Int} {qn : Bool} {qa : Option Addr} {ql qc : Nat} (m : BxL h W p0 pn pa pl pc q0 qn qa ql qc) (hN : h + 3 ≤ N) (hb : Below N W W') : BxL h W' p0 pn pa pl pc q0 qn qa ql qc :=
 ⟨m.a.below (by omega) hb, m.b.below (by omega) hb, m.r.below (by omega) hb⟩
theorem gcd_len2 (ng n2 : Bool) (tg t2 : List Nat) (x y : Int) (hy : 0 < y) (htg : isTrim tg) (ho2 : okL t2) (vg : sg ng (val tg) = gcdI x y) (v2 : sg n2 (val t2) = y) (len2 : t2.length ≤ 1000) : tg.length ≤ 1000 ∧ tg ≠ [] := by
 have h1 : val tg = Int.gcd x y := by
  have h := congrArg Int.natAbs vg; rw [sg_abs] at h; rw [h]; unfold gcdI; simp
 have h2 : val t2 = y.natAbs := by
  have h := congrArg Int.natAbs v2; rw [sg_abs] at h; exact h
 have h3 : 0 < Int.gcd x y := Int.gcd_pos_of_ne_zero_right _ (by omega); have h4 : Int.gcd x y ≤ y.natAbs := Nat.le_of_dvd (by omega) (Int.natAbs_dvd_natAbs.2 (Int.gcd_dvd_right x y)); refine ⟨?_, ?_⟩
 ·have := lenOfLe tg t2 htg ho2 (by omega); omega
 rintro rfl; simp [val] at h1; omega
theorem sg_notR (n : Bool) (v : Nat) : sg (!n) v = -sg n v := by cases n <;> simp [sg]
theorem isLow_neg {x y a b : Int} (h : IsLow (-x) (-y) a b) : IsLow x y a b := by
 obtain ⟨c, c0, e1, e2, p, g⟩ := h; refine ⟨-c, by omega, by rw [Int.mul_neg]; omega, by rw [Int.mul_neg]; omega, p, ?_⟩; rw [Int.natAbs_neg, g, Int.neg_gcd, Int.gcd_neg]
theorem off3 {W : World} {g : Nat} {l : List Value} (h : Bx W g l) {k : Nat} (hk : k ≠ g) (u0 u1 u2 : Value) : Bx (((W.setCell ⟨k, 0, none⟩ u0).setCell ⟨k, 1, none⟩ u1).setCell ⟨k, 2, none⟩ u2) g l := ((h.other ⟨k, 0, none⟩ hk u0).other ⟨k, 1, none⟩ hk u1).other ⟨k, 2, none⟩ hk u2
theorem numZ_of {B : Nat} {W : World} {z : Value} {v : Int} (h : IsN B W z v) (t1 : List Nat) (ok : okL t1) (hv : v.natAbs ≤ val t1) (len : t1.length ≤ 1000) : NumZ B W z v 1000 := by
 obtain ⟨neg, t, hz, hx⟩ := h; refine ⟨neg, t, hz, hx, ?_⟩; have h1 : val t = v.natAbs := by rw [← hx, sg_abs]
 have := lenOfLe t t1 hz.2.1 ok (by omega); omega
theorem abs_le_mul (a c : Int) (hc : c ≠ 0) : a.natAbs ≤ (a * c).natAbs := by
 rw [Int.natAbs_mul]; exact Nat.le_mul_of_pos_right _ (by omega)
theorem low_len1 {x y a b : Int} {n : Bool} {t : List Nat} (h : IsLow x y a b) (hv : sg n (val t) = x) : a.natAbs ≤ val t := by
 obtain ⟨c, c0, e1, _⟩ := h; have h1 : val t = x.natAbs := by rw [← hv, sg_abs]
 rw [h1, e1]; exact abs_le_mul a c c0
theorem low_len2 {x y a b : Int} {n : Bool} {t : List Nat} (h : IsLow x y a b) (hv : sg n (val t) = y) : b.natAbs ≤ val t := by
 obtain ⟨c, c0, _, e2, _⟩ := h; have h1 : val t = y.natAbs := by rw [← hv, sg_abs]
 rw [h1, e2]; exact abs_le_mul b c c0
set_option maxRecDepth 100000 in
set_option maxHeartbeats 4000000 in
theorem l2Make_any (B : Nat) (zp zq : Value) (x y : Int) (w : World) (hBw : B ≤ w.heap.size) (hp : NumZ B w zp x 1000) (hq : NumZ B w zq y 1000) (hy : y ≠ 0) :
 Calls Tryz.prog 66 #[zp, zq] w fun e w' => ∃ z p q, e = .returned z ∧ IsQN B w' z p q ∧ IsLow x y p q ∧ Up w w' := by
 obtain ⟨p0, pn, pa, pl, pc, rfl⟩ := hp.shape'; obtain ⟨q0, qn, qa, ql, qc, rfl⟩ := hq.shape'; have HP := Hd hp; have HQ := Hd hq; have HBW := Hd hBw; clear hp hq hBw; obtain ⟨W0, hW0⟩ := exW (((w.alloc (.cells #[.int .i64 p0, .bool pn, .slice pa pl pc] 54)).alloc (.cells #[.int .i64 q0, .bool qn, .slice qa ql qc] 54)).alloc (.cells #[.int .i64 0, .bool false, .slice none 0 0, .int .i64 0, .bool false, .slice none 0 0] 70)); have HW0 := Hd hW0; have hs0 : W0.heap.size = w.heap.size + 3 := by rw [← hW0]; simp
 have HS0 := Hd hs0; have HB0 : Hid (Up w W0) := by
  unfold Hid
  rw [← hW0]; exact below_al (below_al (below_alloc _ _) _) _
 have HM : Hid (BxL w.heap.size W0 p0 pn pa pl pc q0 qn qa ql qc) := by
  have h1 : Bx W0 w.heap.size [.int .i64 p0, .bool pn, .slice pa pl pc] := by rw [← hW0]; exact ((bx_new w _ _).alloc _).alloc _
  have h2 : Bx W0 (w.heap.size + 1) [.int .i64 q0, .bool qn, .slice qa ql qc] := by
   rw [← hW0]; have h := bx_new (w.alloc (.cells #[.int .i64 p0, .bool pn, .slice pa pl pc] 54)) [.int .i64 q0, .bool qn, .slice qa ql qc] 54; rw [World.size_alloc] at h; exact h.alloc _
  have h3 : Bx W0 (w.heap.size + 1 + 1) [.int .i64 0, .bool false, .slice none 0 0, .int .i64 0, .bool false, .slice none 0 0] := by
   rw [← hW0]; have h := bx_new ((w.alloc (.cells #[.int .i64 p0, .bool pn, .slice pa pl pc] 54)).alloc (.cells #[.int .i64 q0, .bool qn, .slice qa ql qc] 54)) [.int .i64 0, .bool false, .slice none 0 0, .int .i64 0, .bool false, .slice none 0 0] 70; rw [World.size_alloc, World.size_alloc] at h; exact h
  exact ⟨h1, h2, h3⟩
 obtain ⟨k0, k1, k2⟩ := HM.o.b.c3; clear hW0 hs0
 go_enter Tryz.func66, Tryz.ntmps66
 go_upto_region 1 with fail
 rw [HW0.o]
 go_wp2_with fail
 refine (l1Sign_any B _ y 1000 _ (by have := HBW.o; have := HS0.o; omega) (HQ.o.below HB0.o)).mono ?_; rintro e w1 ⟨rfl, hb1⟩; have HM1 := Hd (HM.o.below (N := W0.heap.size) (by have := HS0.o; omega) hb1); have HB1 := Hd (HB0.o.trans (hb1.mono HB0.o.size)); have HS1 : Hid (w.heap.size + 3 ≤ w1.heap.size) := by have := HS0.o; have := hb1.size; show w.heap.size + 3 ≤ w1.heap.size; omega
 have HP1 := Hd (HP.o.below HB1.o); have HQ1 := Hd (HQ.o.below HB1.o); obtain ⟨a0, a1, a2⟩ := HM1.o.a.c3; obtain ⟨b0, b1, b2⟩ := HM1.o.b.c3; clear hb1 k0 k1 k2
 by_cases hneg : y < 0
 ·have z : decide (ordI y 0 < 0) = true := by rw [ordI_lt]; exact decide_eq_true hneg
  have HYP : Hid (0 < -y) := by show 0 < -y; omega
  have HL : Hid (∀ a b, IsLow (-x) (-y) a b → IsLow x y a b) := fun a b h => isLow_neg h; obtain ⟨np, tp, hzp, vp, lp⟩ := HP1.o; have HZP := Hd hzp; have HVP : Hid (sg (!np) (val tp) = -x ∧ tp.length ≤ 1000) := ⟨by rw [← vp]; exact sg_notR np _, lp⟩; clear hzp vp lp
  go_wp2_with fail
  refine (l1Minus_any B _ np tp w1 HZP.o).mono ?_; rintro e w2 ⟨z2, rfl, hz2, hb2⟩; obtain ⟨P0, Pn, Pa, Pl, Pc, rfl⟩ := hz2.shape; have hm2 := HM1.o.below (N := w1.heap.size) HS1.o hb2; have hnA : NoInt w2 w.heap.size := noInt_of hm2.a (by simp); obtain ⟨W3, hW3⟩ := exW (((w2.setCell ⟨w.heap.size, 0, none⟩ (.int .i64 P0)).setCell ⟨w.heap.size, 1, none⟩ (.bool Pn)).setCell ⟨w.heap.size, 2, none⟩ (.slice Pa Pl Pc)); have HW3 := Hd hW3; have hkA := Keeps.three w2 w.heap.size (.int .i64 P0) (.bool Pn) (.slice Pa Pl Pc); have HP3 : Hid (NumZ B W3 (.agg #[.int .i64 P0, .bool Pn, .slice Pa Pl Pc]) (-x) 1000) := by
   have h : NumZ B w2 (.agg #[.int .i64 P0, .bool Pn, .slice Pa Pl Pc]) (-x) 1000 := ⟨_, _, hz2, HVP.o.1, HVP.o.2⟩; have h2 := h.keeps hnA hnA hkA; rw [hW3] at h2; exact h2
  have HQ3 : Hid (NumZ B W3 (.agg #[.int .i64 q0, .bool qn, .slice qa ql qc]) y 1000) := by
   have h2 := (HQ1.o.below hb2).keeps hnA hnA hkA; rw [hW3] at h2; exact h2
  have HB3 : Hid (Up w W3) := by
   have h := belowSet3 (HB1.o.trans (hb2.mono HB1.o.size)) w.heap.size leR (.int .i64 P0) (.bool Pn) (.slice Pa Pl Pc); rw [hW3] at h; exact h
  have HM3 : Hid (BxL w.heap.size W3 P0 Pn Pa Pl Pc q0 qn qa ql qc) := by
   have h1 : Bx (((w2.setCell ⟨w.heap.size, 0, none⟩ (.int .i64 P0)).setCell ⟨w.heap.size, 1, none⟩ (.bool Pn)).setCell ⟨w.heap.size, 2, none⟩ (.slice Pa Pl Pc)) w.heap.size [.int .i64 P0, .bool Pn, .slice Pa Pl Pc] := ((hm2.a.set 0 _).set 1 _).set 2 _; have h2 := off3 hm2.b (k := w.heap.size) (by omega) (.int .i64 P0) (.bool Pn) (.slice Pa Pl Pc); have h3 := off3 hm2.r (k := w.heap.size) (by omega) (.int .i64 P0) (.bool Pn) (.slice Pa Pl Pc); rw [hW3] at h1 h2 h3; exact ⟨h1, h2, h3⟩
  have HS3 : Hid (w.heap.size + 3 ≤ W3.heap.size) := by
   have := HM3.o.r.lt
   show w.heap.size + 3 ≤ W3.heap.size
   omega
  obtain ⟨c0, c1, c2⟩ := hm2.a.c3; obtain ⟨x0, x1, x2⟩ := hm2.a.f3; obtain ⟨nq, tq, hzq, vq, lq⟩ := HQ3.o; have HZQ := Hd hzq; have HVQ : Hid (sg (!nq) (val tq) = -y ∧ tq.length ≤ 1000) := ⟨by rw [← vq]; exact sg_notR nq _, lq⟩; obtain ⟨d0, d1, d2⟩ := HM3.o.b.c3; clear hz2 hb2 hm2 hnA hW3 hkA hzq vq lq a0 a1 a2 b0 b1 b2
  go_upto_region 3 with fail
  rw [HW3.o]; clear c0 c1 c2 x0 x1 x2
  go_wp2_with fail
  refine (l1Minus_any B _ nq tq W3 HZQ.o).mono ?_; rintro e w4 ⟨z4, rfl, hz4, hb4⟩; obtain ⟨Q0, Qn, Qa, Ql, Qc, rfl⟩ := hz4.shape; have hm4 := HM3.o.below (N := W3.heap.size) HS3.o hb4; have hnB : NoInt w4 (w.heap.size + 1) := noInt_of hm4.b (by simp); obtain ⟨W5, hW5⟩ := exW (((w4.setCell ⟨w.heap.size + 1, 0, none⟩ (.int .i64 Q0)).setCell ⟨w.heap.size + 1, 1, none⟩ (.bool Qn)).setCell ⟨w.heap.size + 1, 2, none⟩ (.slice Qa Ql Qc)); have HW5 := Hd hW5; have hkB := Keeps.three w4 (w.heap.size + 1) (.int .i64 Q0) (.bool Qn) (.slice Qa Ql Qc); have HQ5 : Hid (NumZ B W5 (.agg #[.int .i64 Q0, .bool Qn, .slice Qa Ql Qc]) (-y) 1000) := by
   have h : NumZ B w4 (.agg #[.int .i64 Q0, .bool Qn, .slice Qa Ql Qc]) (-y) 1000 := ⟨_, _, hz4, HVQ.o.1, HVQ.o.2⟩; have h2 := h.keeps hnB hnB hkB; rw [hW5] at h2; exact h2
  have HP5 : Hid (NumZ B W5 (.agg #[.int .i64 P0, .bool Pn, .slice Pa Pl Pc]) (-x) 1000) := by
   have h2 := (HP3.o.below hb4).keeps hnB hnB hkB; rw [hW5] at h2; exact h2
  have HB5 : Hid (Up w W5) := by
   have h := belowSet3 (HB3.o.trans (hb4.mono HB3.o.size)) (w.heap.size + 1) (Nat.le_succ _) (.int .i64 Q0) (.bool Qn) (.slice Qa Ql Qc); rw [hW5] at h; exact h
  have HM5 : Hid (BxL w.heap.size W5 P0 Pn Pa Pl Pc Q0 Qn Qa Ql Qc) := by
   have h1 := off3 hm4.a (k := w.heap.size + 1) (by omega) (.int .i64 Q0) (.bool Qn) (.slice Qa Ql Qc); have h2 : Bx (((w4.setCell ⟨w.heap.size + 1, 0, none⟩ (.int .i64 Q0)).setCell ⟨w.heap.size + 1, 1, none⟩ (.bool Qn)).setCell ⟨w.heap.size + 1, 2, none⟩ (.slice Qa Ql Qc)) (w.heap.size + 1) [.int .i64 Q0, .bool Qn, .slice Qa Ql Qc] := ((hm4.b.set 0 _).set 1 _).set 2 _; have h3 := off3 hm4.r (k := w.heap.size + 1) (by omega) (.int .i64 Q0) (.bool Qn) (.slice Qa Ql Qc); rw [hW5] at h1 h2 h3; exact ⟨h1, h2, h3⟩
  have HS5 : Hid (w.heap.size + 3 ≤ W5.heap.size) := by
   have := HM5.o.r.lt
   show w.heap.size + 3 ≤ W5.heap.size
   omega
  obtain ⟨c0, c1, c2⟩ := hm4.b.c3; obtain ⟨x0, x1, x2⟩ := hm4.b.f3; clear hz4 hb4 hm4 hnB hW5 hkB d0 d1 d2
  go_upto_region 4 with fail
  rw [HW5.o]; clear c0 c1 c2 x0 x1 x2; obtain ⟨a0, a1, a2⟩ := HM5.o.a.c3; obtain ⟨b0, b1, b2⟩ := HM5.o.b.c3; clear HP3 HQ3 HB3 HM3 HS3 HW3
  go_wp2_with fail
  refine (l1IsSmall_ex Q0 Qn Qa Ql Qc W5).mono ?_; rintro e w3 ⟨rfl, hw3⟩; have hb3 : Up W5 w3 := by rw [hw3]; exact below_alloc _ _
  have HM3 := Hd (HM5.o.below (N := W5.heap.size) HS5.o hb3); have HB3 := Hd (HB5.o.trans (hb3.mono HB5.o.size)); have HP3 := Hd (HP5.o.below hb3); have HQ3 := Hd (HQ5.o.below hb3); have HS3 : Hid (w.heap.size + 3 ≤ w3.heap.size) := Nat.le_trans HS5.o hb3.size; have HONE := Hd (isN_one HQ5.o.isN); clear hw3 hb3 a0 a1 a2 b0 b1 b2; obtain ⟨a0, a1, a2⟩ := HM3.o.a.c3; obtain ⟨b0, b1, b2⟩ := HM3.o.b.c3
  by_cases h1 : -y = 1
  ·have hone := HONE.o; rw [decide_eq_true h1, Bool.and_eq_true] at hone; obtain ⟨z1, z2⟩ := hone; rw [z1]; have HLOW : Hid (IsLow x y (-x) (-y)) := HL.o _ _ (isLow_one HYP.o (by rw [h1]; simp)); obtain ⟨r0, r1, r2, r3, r4, r5⟩ := HM3.o.r.c6; obtain ⟨f0, f1, f2, f3, f4, f5⟩ := HM3.o.r.f6
   go_wp2
   have hnR : NoInt w3 (w.heap.size + 1 + 1) := noInt_of HM3.o.r (by simp); have hk := keeps6 w3 (w.heap.size + 1 + 1) (.int .i64 P0) (.bool Pn) (.slice Pa Pl Pc) (.int .i64 Q0) (.bool Qn) (.slice Qa Ql Qc); have hP9 := HP3.o.keeps hnR hnR hk; have hQ9 := HQ3.o.keeps hnR hnR hk; have hB9 := set6 HB3.o (w.heap.size + 1 + 1) (by omega) (.int .i64 P0) (.bool Pn) (.slice Pa Pl Pc) (.int .i64 Q0) (.bool Qn) (.slice Qa Ql Qc); have hZ := HM3.o.r.put6 (.int .i64 P0) (.bool Pn) (.slice Pa Pl Pc) (.int .i64 Q0) (.bool Qn) (.slice Qa Ql Qc); have hWW : ((((((w3.setCell ⟨w.heap.size + 1 + 1, 0, none⟩ (.int .i64 P0)).setCell ⟨w.heap.size + 1 + 1, 1, none⟩ (.bool Pn)).setCell ⟨w.heap.size + 1 + 1, 2, none⟩ (.slice Pa Pl Pc)).setCell ⟨w.heap.size + 1 + 1, 3, none⟩ (.int .i64 Q0)).setCell ⟨w.heap.size + 1 + 1, 4, none⟩ (.bool Qn)).setCell ⟨w.heap.size + 1 + 1, 5, none⟩ (.slice Qa Ql Qc)) = W6 w3 (w.heap.size + 1 + 1) (.int .i64 P0) (.bool Pn) (.slice Pa Pl Pc) (.int .i64 Q0) (.bool Qn) (.slice Qa Ql Qc) := rfl; rw [hWW]; generalize W6 w3 (w.heap.size + 1 + 1) (.int .i64 P0) (.bool Pn) (.slice Pa Pl Pc) (.int .i64 Q0) (.bool Qn) (.slice Qa Ql Qc) = W9 at *; obtain ⟨m0, m1, m2, m3, m4, m5⟩ := hZ.c6; refine bodyPost_ret (v := .agg #[.int .i64 P0, .bool Pn, .slice Pa Pl Pc, .int .i64 Q0, .bool Qn, .slice Qa Ql Qc]) ?_ rfl ⟨_, _, _, rfl, ⟨P0, Pn, Pa, Pl, Pc, Q0, Qn, Qa, Ql, Qc, rfl, hP9, hQ9⟩, HLOW.o, hB9⟩; simp [results, Tryz.results66, go_sem, m0, m1, m2, m3, m4, m5]
  have hone := HONE.o; rw [decide_eq_false h1] at hone
  by_cases hz : Ql = 0
  case' pos =>
   have z1 : ((Ql : Int) == 0) = true := by rw [beq_iff_eq]; omega
   have z2 : (Q0 == 1) = false := by rw [z1] at hone; exact hone
  case' neg =>
   have z1 : ((Ql : Int) == 0) = false := by rw [beq_eq_false_iff_ne]; omega
  all_goals
   rw [z1]; clear hone hz
   go_wp2_with fail
   obtain ⟨n1, t1, hz1, v1, len1⟩ := HP3.o; obtain ⟨n2, t2, hz2, v2, len2⟩ := HQ3.o; have HZZ := Hd (And.intro hz1 hz2); have HVV := Hd (And.intro v1 v2); clear hz1 hz2 v1 v2; refine (l1Gcd_any B _ _ n1 n2 t1 t2 1000 _ (by have := HBW.o; have := HB3.o.size; omega) HZZ.o.1 HZZ.o.2 len1 len2 (by omega)).mono ?_; rintro e w4 ⟨zg, rfl, hg, hb4⟩; rw [HVV.o.1, HVV.o.2] at hg; obtain ⟨g0, gn, ga, gl, gc, rfl⟩ := hg.shape; obtain ⟨W5, hW5⟩ := exW (w4.alloc (.cells #[.int .i64 g0, .bool gn, .slice ga gl gc] 54)); have HW5 := Hd hW5; have hb5 : Up w4 W5 := by rw [← hW5]; exact below_alloc _ _
   have hgx : Bx W5 w4.heap.size [.int .i64 g0, .bool gn, .slice ga gl gc] := by rw [← hW5]; exact bx_new w4 _ _
   have hb35 : Up w3 W5 := hb4.trans (hb5.mono hb4.size); have HM5 := Hd (HM3.o.below (N := w3.heap.size) HS3.o hb35); have HB5 := Hd (HB3.o.trans (hb35.mono HB3.o.size)); have HS5 : Hid (w.heap.size + 3 ≤ w4.heap.size) := Nat.le_trans HS3.o hb4.size; have HG5 := Hd (hg.below hb5); have HZ5 := Hd (And.intro (HZZ.o.1.below hb35) (HZZ.o.2.below hb35)); have HGX : Hid (∀ W, Up W5 W → Bx W w4.heap.size [.int .i64 g0, .bool gn, .slice ga gl gc]) := fun W hW => hgx.below hgx.lt hW; obtain ⟨g1, g2, g3⟩ := hgx.c3; clear hg hW5 hb4 hb5 hgx hb35 a0 a1 a2 b0 b1 b2
   go_upto_region 8 with fail
   rw [HW5.o]; refine (l1IsSmall_ex g0 gn ga gl gc W5).mono ?_; rintro e w6 ⟨rfl, hw6⟩; have hb6 : Up W5 w6 := by rw [hw6]; exact below_alloc _ _
   have HSW : Hid (w.heap.size + 3 ≤ W5.heap.size) := Nat.le_trans HS5.o (Nat.le_of_lt (HGX.o W5 (Below.refl _ _)).lt); have HM6 := Hd (HM5.o.below (N := W5.heap.size) HSW.o hb6); have HB6 := Hd (HB5.o.trans (hb6.mono HB5.o.size)); have HG6 := Hd (HG5.o.below hb6); have HZ6 := Hd (And.intro (HZ5.o.1.below hb6) (HZ5.o.2.below hb6)); have HGO := Hd (isN_one HG5.o); have hx6 := HGX.o w6 hb6; obtain ⟨g1', g2', g3'⟩ := hx6.c3; have HS6 : Hid (w.heap.size + 3 ≤ w6.heap.size) := Nat.le_trans HSW.o hb6.size; have HGX6 : Hid (∀ W, Up w6 W → Bx W w4.heap.size [.int .i64 g0, .bool gn, .slice ga gl gc]) := fun W hW => HGX.o W ((show Up W5 w6 from hb6).trans (hW.mono hb6.size)); clear hw6 hb6 hx6 g1 g2 g3; obtain ⟨a0, a1, a2⟩ := HM6.o.a.c3; obtain ⟨b0, b1, b2⟩ := HM6.o.b.c3
   by_cases hg1 : gcdI (-x) (-y) = 1
   ·have hone := HGO.o; rw [decide_eq_true hg1, Bool.and_eq_true] at hone; obtain ⟨y1, y2⟩ := hone; rw [y1]; have HP6 : Hid (NumZ B w6 (.agg #[.int .i64 P0, .bool Pn, .slice Pa Pl Pc]) (-x) 1000) := ⟨_, _, HZ6.o.1, HVV.o.1, len1⟩; have HQ6 : Hid (NumZ B w6 (.agg #[.int .i64 Q0, .bool Qn, .slice Qa Ql Qc]) (-y) 1000) := ⟨_, _, HZ6.o.2, HVV.o.2, len2⟩; have HLOW : Hid (IsLow x y (-x) (-y)) := HL.o _ _ (isLow_one HYP.o (by unfold gcdI at hg1; omega)); clear y1; obtain ⟨r0, r1, r2, r3, r4, r5⟩ := HM6.o.r.c6; obtain ⟨f0, f1, f2, f3, f4, f5⟩ := HM6.o.r.f6
    go_wp2
    have hnR : NoInt w6 (w.heap.size + 1 + 1) := noInt_of HM6.o.r (by simp); have hk := keeps6 w6 (w.heap.size + 1 + 1) (.int .i64 P0) (.bool Pn) (.slice Pa Pl Pc) (.int .i64 Q0) (.bool Qn) (.slice Qa Ql Qc); have hP9 := HP6.o.keeps hnR hnR hk; have hQ9 := HQ6.o.keeps hnR hnR hk; have hB9 := set6 HB6.o (w.heap.size + 1 + 1) (by omega) (.int .i64 P0) (.bool Pn) (.slice Pa Pl Pc) (.int .i64 Q0) (.bool Qn) (.slice Qa Ql Qc); have hZ := HM6.o.r.put6 (.int .i64 P0) (.bool Pn) (.slice Pa Pl Pc) (.int .i64 Q0) (.bool Qn) (.slice Qa Ql Qc); have hWW : ((((((w6.setCell ⟨w.heap.size + 1 + 1, 0, none⟩ (.int .i64 P0)).setCell ⟨w.heap.size + 1 + 1, 1, none⟩ (.bool Pn)).setCell ⟨w.heap.size + 1 + 1, 2, none⟩ (.slice Pa Pl Pc)).setCell ⟨w.heap.size + 1 + 1, 3, none⟩ (.int .i64 Q0)).setCell ⟨w.heap.size + 1 + 1, 4, none⟩ (.bool Qn)).setCell ⟨w.heap.size + 1 + 1, 5, none⟩ (.slice Qa Ql Qc)) = W6 w6 (w.heap.size + 1 + 1) (.int .i64 P0) (.bool Pn) (.slice Pa Pl Pc) (.int .i64 Q0) (.bool Qn) (.slice Qa Ql Qc) := rfl; rw [hWW]; generalize W6 w6 (w.heap.size + 1 + 1) (.int .i64 P0) (.bool Pn) (.slice Pa Pl Pc) (.int .i64 Q0) (.bool Qn) (.slice Qa Ql Qc) = W9 at *; obtain ⟨m0, m1, m2, m3, m4, m5⟩ := hZ.c6; refine bodyPost_ret (v := .agg #[.int .i64 P0, .bool Pn, .slice Pa Pl Pc, .int .i64 Q0, .bool Qn, .slice Qa Ql Qc]) ?_ rfl ⟨_, _, _, rfl, ⟨P0, Pn, Pa, Pl, Pc, Q0, Qn, Qa, Ql, Qc, rfl, hP9, hQ9⟩, HLOW.o, hB9⟩; simp [results, Tryz.results66, go_sem, m0, m1, m2, m3, m4, m5]
   have hone := HGO.o; rw [decide_eq_false hg1] at hone; obtain ⟨ng, tg, hzg, vg⟩ := HG6.o; have HZG := Hd hzg; have HVG := Hd vg; have HLEN : Hid (tg.length ≤ 1000 ∧ tg ≠ []) := gcd_len2 ng n2 tg t2 (-x) (-y) HYP.o hzg.2.1 HZ6.o.2.1 vg HVV.o.2 len2; clear hzg vg
   by_cases hz : gl = 0
   case' pos =>
    have y1 : ((gl : Int) == 0) = true := by rw [beq_iff_eq]; omega
    have y2 : (g0 == 1) = false := by rw [y1] at hone; exact hone
   case' neg =>
    have y1 : ((gl : Int) == 0) = false := by rw [beq_eq_false_iff_ne]; omega
   all_goals
    rw [y1]; clear hone hz
    go_wp2_with fail
    refine (l1Div_any B _ _ n1 ng t1 tg _ (by have := HBW.o; have := HB6.o.size; omega) HZ6.o.1 HZG.o (by omega) (by have := HLEN.o.1; omega) HLEN.o.2).mono ?_; rintro e w7 ⟨za, zr, qa1, ra1, rfl, ⟨hna, hnr⟩, hda, hb7⟩; rw [HVV.o.1, HVG.o] at hda; have HDA := Hd hda; obtain ⟨d0, dn, da, dl, dc, rfl⟩ := hna.shape; obtain ⟨e0, en, ea, el, ec, rfl⟩ := hnr.shape; obtain ⟨W8, hW8⟩ := exW ((w7.alloc (.cells #[.int .i64 d0, .bool dn, .slice da dl dc] 54)).alloc (.cells #[.int .i64 e0, .bool en, .slice ea el ec] 54)); have HW8 := Hd hW8; have hb8 : Up w7 W8 := by rw [← hW8]; exact below_al (below_alloc _ _) _
    have hax : Bx W8 w7.heap.size [.int .i64 d0, .bool dn, .slice da dl dc] := by rw [← hW8]; exact (bx_new w7 _ _).alloc _
    have hb68 : Up w6 W8 := hb7.trans (hb8.mono hb7.size); have HM8 := Hd (HM6.o.below (N := w6.heap.size) HS6.o hb68); have HB8 := Hd (HB6.o.trans (hb68.mono HB6.o.size)); have HS8 : Hid (w.heap.size + 3 ≤ W8.heap.size) := Nat.le_trans HS6.o hb68.size; have HZ8 := Hd (And.intro (HZ6.o.2.below hb68) (HZG.o.below hb68)); have HNA : Hid (IsN B W8 (.agg #[.int .i64 d0, .bool dn, .slice da dl dc]) qa1) := (hna.below hb8).mono (by have := HBW.o; have := HB6.o.size; omega); have HAX : Hid (∀ W, Up W8 W → Bx W w7.heap.size [.int .i64 d0, .bool dn, .slice da dl dc]) := fun W hW => hax.below hax.lt hW; have hg8 := HGX6.o W8 hb68; have g1'' := hg8.cell 0; have g2'' := hg8.cell 1; have g3'' := hg8.cell 2; have b0' := HM8.o.b.cell 0; have b1' := HM8.o.b.cell 1; have b2' := HM8.o.b.cell 2; simp only [List.getElem?_cons_zero, List.getElem?_cons_succ] at g1'' g2'' g3'' b0' b1' b2'; clear hna hnr hda hb7 hW8 hb8 hax hb68 hg8 a0 a1 a2 b0 b1 b2 g1' g2' g3'
    go_upto_region 10 with fail
    rw [HW8.o]
    go_wp2_with fail
    refine (l1Div_any B _ _ n2 ng t2 tg W8 (by have := HBW.o; have := HB8.o.size; omega) HZ8.o.1 HZ8.o.2 (by omega) (by have := HLEN.o.1; omega) HLEN.o.2).mono ?_; rintro e w9 ⟨zb, zs, qb1, rb1, rfl, ⟨hnb, hns⟩, hdb, hb9⟩; rw [HVV.o.2, HVG.o] at hdb; have HLO := Hd (low_of_div (-x) (-y) (gcdI (-x) (-y)) qa1 ra1 qb1 rb1 (by have := HYP.o; omega) (by rw [if_neg (by have := HYP.o; omega)]) HDA.o hdb); obtain ⟨i0, iN, ia, il, ic, rfl⟩ := hnb.shape; obtain ⟨j0, jn, ja, jl, jc, rfl⟩ := hns.shape; obtain ⟨W10, hW10⟩ := exW ((w9.alloc (.cells #[.int .i64 i0, .bool iN, .slice ia il ic] 54)).alloc (.cells #[.int .i64 j0, .bool jn, .slice ja jl jc] 54)); have HW10 := Hd hW10; have hb10 : Up w9 W10 := by rw [← hW10]; exact below_al (below_alloc _ _) _
    have hbx : Bx W10 w9.heap.size [.int .i64 i0, .bool iN, .slice ia il ic] := by rw [← hW10]; exact (bx_new w9 _ _).alloc _
    have hb810 : Up W8 W10 := hb9.trans (hb10.mono hb9.size); have HM10 := Hd (HM8.o.below (N := W8.heap.size) HS8.o hb810); have HB10 := Hd (HB8.o.trans (hb810.mono HB8.o.size)); have HP10 : Hid (NumZ B W10 (.agg #[.int .i64 d0, .bool dn, .slice da dl dc]) qa1 1000) := numZ_of (HNA.o.below hb810) t1 HZ6.o.1.1 (low_len1 HLO.o HVV.o.1) len1; have HQ10 : Hid (NumZ B W10 (.agg #[.int .i64 i0, .bool iN, .slice ia il ic]) qb1 1000) := numZ_of ((hnb.below hb10).mono (by have := HBW.o; have := HB8.o.size; omega)) t2 HZ6.o.2.1 (low_len2 HLO.o HVV.o.2) len2; have HLOW := Hd (HL.o _ _ HLO.o); have hax := HAX.o W10 hb810; obtain ⟨u0, u1, u2⟩ := hax.c3; obtain ⟨v0, v1, v2⟩ := hbx.c3; clear hnb hns hdb hb9 hW10 hb10 hbx hb810 hax b0' b1' b2' g1'' g2'' g3''
    go_upto_region 11 with fail
    rw [HW10.o]; obtain ⟨r0, r1, r2, r3, r4, r5⟩ := HM10.o.r.c6; obtain ⟨f0, f1, f2, f3, f4, f5⟩ := HM10.o.r.f6
    go_wp2
    have hnR : NoInt W10 (w.heap.size + 1 + 1) := noInt_of HM10.o.r (by simp); have hk := keeps6 W10 (w.heap.size + 1 + 1) (.int .i64 d0) (.bool dn) (.slice da dl dc) (.int .i64 i0) (.bool iN) (.slice ia il ic); have hP9 := HP10.o.keeps hnR hnR hk; have hQ9 := HQ10.o.keeps hnR hnR hk; have hB9 := set6 HB10.o (w.heap.size + 1 + 1) (by omega) (.int .i64 d0) (.bool dn) (.slice da dl dc) (.int .i64 i0) (.bool iN) (.slice ia il ic); have hZ := HM10.o.r.put6 (.int .i64 d0) (.bool dn) (.slice da dl dc) (.int .i64 i0) (.bool iN) (.slice ia il ic); have hWW : ((((((W10.setCell ⟨w.heap.size + 1 + 1, 0, none⟩ (.int .i64 d0)).setCell ⟨w.heap.size + 1 + 1, 1, none⟩ (.bool dn)).setCell ⟨w.heap.size + 1 + 1, 2, none⟩ (.slice da dl dc)).setCell ⟨w.heap.size + 1 + 1, 3, none⟩ (.int .i64 i0)).setCell ⟨w.heap.size + 1 + 1, 4, none⟩ (.bool iN)).setCell ⟨w.heap.size + 1 + 1, 5, none⟩ (.slice ia il ic)) = W6 W10 (w.heap.size + 1 + 1) (.int .i64 d0) (.bool dn) (.slice da dl dc) (.int .i64 i0) (.bool iN) (.slice ia il ic) := rfl; rw [hWW]; generalize W6 W10 (w.heap.size + 1 + 1) (.int .i64 d0) (.bool dn) (.slice da dl dc) (.int .i64 i0) (.bool iN) (.slice ia il ic) = W9 at *; obtain ⟨m0, m1, m2, m3, m4, m5⟩ := hZ.c6; refine bodyPost_ret (v := .agg #[.int .i64 d0, .bool dn, .slice da dl dc, .int .i64 i0, .bool iN, .slice ia il ic]) ?_ rfl ⟨_, _, _, rfl, ⟨d0, dn, da, dl, dc, i0, iN, ia, il, ic, rfl, hP9, hQ9⟩, HLOW.o, hB9⟩; simp [results, Tryz.results66, go_sem, m0, m1, m2, m3, m4, m5]
 have z : decide (ordI y 0 < 0) = false := by rw [ordI_lt]; exact decide_eq_false hneg
 have HYP : Hid (0 < y) := by show 0 < y; omega
 have HL : Hid (∀ a b, IsLow x y a b → IsLow x y a b) := fun _ _ h => h
 go_wp2_with fail
 refine (l1IsSmall_ex q0 qn qa ql qc w1).mono ?_; rintro e w3 ⟨rfl, hw3⟩; have hb3 : Up w1 w3 := by rw [hw3]; exact below_alloc _ _
 have HM3 := Hd (HM1.o.below (N := w1.heap.size) HS1.o hb3); have HB3 := Hd (HB1.o.trans (hb3.mono HB1.o.size)); have HP3 := Hd (HP1.o.below hb3); have HQ3 := Hd (HQ1.o.below hb3); have HS3 : Hid (w.heap.size + 3 ≤ w3.heap.size) := Nat.le_trans HS1.o hb3.size; have HONE := Hd (isN_one HQ1.o.isN); clear hw3 hb3 a0 a1 a2 b0 b1 b2; obtain ⟨a0, a1, a2⟩ := HM3.o.a.c3; obtain ⟨b0, b1, b2⟩ := HM3.o.b.c3
 by_cases h1 : y = 1
 ·have hone := HONE.o; rw [decide_eq_true h1, Bool.and_eq_true] at hone; obtain ⟨z1, z2⟩ := hone; rw [z1]; have HLOW : Hid (IsLow x y (x) (y)) := HL.o _ _ (isLow_one HYP.o (by rw [h1]; simp)); obtain ⟨r0, r1, r2, r3, r4, r5⟩ := HM3.o.r.c6; obtain ⟨f0, f1, f2, f3, f4, f5⟩ := HM3.o.r.f6
  go_wp2
  have hnR : NoInt w3 (w.heap.size + 1 + 1) := noInt_of HM3.o.r (by simp); have hk := keeps6 w3 (w.heap.size + 1 + 1) (.int .i64 p0) (.bool pn) (.slice pa pl pc) (.int .i64 q0) (.bool qn) (.slice qa ql qc); have hP9 := HP3.o.keeps hnR hnR hk; have hQ9 := HQ3.o.keeps hnR hnR hk; have hB9 := set6 HB3.o (w.heap.size + 1 + 1) (by omega) (.int .i64 p0) (.bool pn) (.slice pa pl pc) (.int .i64 q0) (.bool qn) (.slice qa ql qc); have hZ := HM3.o.r.put6 (.int .i64 p0) (.bool pn) (.slice pa pl pc) (.int .i64 q0) (.bool qn) (.slice qa ql qc); have hWW : ((((((w3.setCell ⟨w.heap.size + 1 + 1, 0, none⟩ (.int .i64 p0)).setCell ⟨w.heap.size + 1 + 1, 1, none⟩ (.bool pn)).setCell ⟨w.heap.size + 1 + 1, 2, none⟩ (.slice pa pl pc)).setCell ⟨w.heap.size + 1 + 1, 3, none⟩ (.int .i64 q0)).setCell ⟨w.heap.size + 1 + 1, 4, none⟩ (.bool qn)).setCell ⟨w.heap.size + 1 + 1, 5, none⟩ (.slice qa ql qc)) = W6 w3 (w.heap.size + 1 + 1) (.int .i64 p0) (.bool pn) (.slice pa pl pc) (.int .i64 q0) (.bool qn) (.slice qa ql qc) := rfl; rw [hWW]; generalize W6 w3 (w.heap.size + 1 + 1) (.int .i64 p0) (.bool pn) (.slice pa pl pc) (.int .i64 q0) (.bool qn) (.slice qa ql qc) = W9 at *; obtain ⟨m0, m1, m2, m3, m4, m5⟩ := hZ.c6; refine bodyPost_ret (v := .agg #[.int .i64 p0, .bool pn, .slice pa pl pc, .int .i64 q0, .bool qn, .slice qa ql qc]) ?_ rfl ⟨_, _, _, rfl, ⟨p0, pn, pa, pl, pc, q0, qn, qa, ql, qc, rfl, hP9, hQ9⟩, HLOW.o, hB9⟩; simp [results, Tryz.results66, go_sem, m0, m1, m2, m3, m4, m5]
 have hone := HONE.o; rw [decide_eq_false h1] at hone
 by_cases hz : ql = 0
 case' pos =>
  have z1 : ((ql : Int) == 0) = true := by rw [beq_iff_eq]; omega
  have z2 : (q0 == 1) = false := by rw [z1] at hone; exact hone
 case' neg =>
  have z1 : ((ql : Int) == 0) = false := by rw [beq_eq_false_iff_ne]; omega
 all_goals
  rw [z1]; clear hone hz
  go_wp2_with fail
  obtain ⟨n1, t1, hz1, v1, len1⟩ := HP3.o; obtain ⟨n2, t2, hz2, v2, len2⟩ := HQ3.o; have HZZ := Hd (And.intro hz1 hz2); have HVV := Hd (And.intro v1 v2); clear hz1 hz2 v1 v2; refine (l1Gcd_any B _ _ n1 n2 t1 t2 1000 _ (by have := HBW.o; have := HB3.o.size; omega) HZZ.o.1 HZZ.o.2 len1 len2 (by omega)).mono ?_; rintro e w4 ⟨zg, rfl, hg, hb4⟩; rw [HVV.o.1, HVV.o.2] at hg; obtain ⟨g0, gn, ga, gl, gc, rfl⟩ := hg.shape; obtain ⟨W5, hW5⟩ := exW (w4.alloc (.cells #[.int .i64 g0, .bool gn, .slice ga gl gc] 54)); have HW5 := Hd hW5; have hb5 : Up w4 W5 := by rw [← hW5]; exact below_alloc _ _
  have hgx : Bx W5 w4.heap.size [.int .i64 g0, .bool gn, .slice ga gl gc] := by rw [← hW5]; exact bx_new w4 _ _
  have hb35 : Up w3 W5 := hb4.trans (hb5.mono hb4.size); have HM5 := Hd (HM3.o.below (N := w3.heap.size) HS3.o hb35); have HB5 := Hd (HB3.o.trans (hb35.mono HB3.o.size)); have HS5 : Hid (w.heap.size + 3 ≤ w4.heap.size) := Nat.le_trans HS3.o hb4.size; have HG5 := Hd (hg.below hb5); have HZ5 := Hd (And.intro (HZZ.o.1.below hb35) (HZZ.o.2.below hb35)); have HGX : Hid (∀ W, Up W5 W → Bx W w4.heap.size [.int .i64 g0, .bool gn, .slice ga gl gc]) := fun W hW => hgx.below hgx.lt hW; obtain ⟨g1, g2, g3⟩ := hgx.c3; clear hg hW5 hb4 hb5 hgx hb35 a0 a1 a2 b0 b1 b2
  go_upto_region 8 with fail
  rw [HW5.o]; refine (l1IsSmall_ex g0 gn ga gl gc W5).mono ?_; rintro e w6 ⟨rfl, hw6⟩; have hb6 : Up W5 w6 := by rw [hw6]; exact below_alloc _ _
  have HSW : Hid (w.heap.size + 3 ≤ W5.heap.size) := Nat.le_trans HS5.o (Nat.le_of_lt (HGX.o W5 (Below.refl _ _)).lt); have HM6 := Hd (HM5.o.below (N := W5.heap.size) HSW.o hb6); have HB6 := Hd (HB5.o.trans (hb6.mono HB5.o.size)); have HG6 := Hd (HG5.o.below hb6); have HZ6 := Hd (And.intro (HZ5.o.1.below hb6) (HZ5.o.2.below hb6)); have HGO := Hd (isN_one HG5.o); have hx6 := HGX.o w6 hb6; obtain ⟨g1', g2', g3'⟩ := hx6.c3; have HS6 : Hid (w.heap.size + 3 ≤ w6.heap.size) := Nat.le_trans HSW.o hb6.size; have HGX6 : Hid (∀ W, Up w6 W → Bx W w4.heap.size [.int .i64 g0, .bool gn, .slice ga gl gc]) := fun W hW => HGX.o W ((show Up W5 w6 from hb6).trans (hW.mono hb6.size)); clear hw6 hb6 hx6 g1 g2 g3; obtain ⟨a0, a1, a2⟩ := HM6.o.a.c3; obtain ⟨b0, b1, b2⟩ := HM6.o.b.c3
  by_cases hg1 : gcdI (x) (y) = 1
  ·have hone := HGO.o; rw [decide_eq_true hg1, Bool.and_eq_true] at hone; obtain ⟨y1, y2⟩ := hone; rw [y1]; have HP6 : Hid (NumZ B w6 (.agg #[.int .i64 p0, .bool pn, .slice pa pl pc]) (x) 1000) := ⟨_, _, HZ6.o.1, HVV.o.1, len1⟩; have HQ6 : Hid (NumZ B w6 (.agg #[.int .i64 q0, .bool qn, .slice qa ql qc]) (y) 1000) := ⟨_, _, HZ6.o.2, HVV.o.2, len2⟩; have HLOW : Hid (IsLow x y (x) (y)) := HL.o _ _ (isLow_one HYP.o (by unfold gcdI at hg1; omega)); clear y1; obtain ⟨r0, r1, r2, r3, r4, r5⟩ := HM6.o.r.c6; obtain ⟨f0, f1, f2, f3, f4, f5⟩ := HM6.o.r.f6
   go_wp2
   have hnR : NoInt w6 (w.heap.size + 1 + 1) := noInt_of HM6.o.r (by simp); have hk := keeps6 w6 (w.heap.size + 1 + 1) (.int .i64 p0) (.bool pn) (.slice pa pl pc) (.int .i64 q0) (.bool qn) (.slice qa ql qc); have hP9 := HP6.o.keeps hnR hnR hk; have hQ9 := HQ6.o.keeps hnR hnR hk; have hB9 := set6 HB6.o (w.heap.size + 1 + 1) (by omega) (.int .i64 p0) (.bool pn) (.slice pa pl pc) (.int .i64 q0) (.bool qn) (.slice qa ql qc); have hZ := HM6.o.r.put6 (.int .i64 p0) (.bool pn) (.slice pa pl pc) (.int .i64 q0) (.bool qn) (.slice qa ql qc); have hWW : ((((((w6.setCell ⟨w.heap.size + 1 + 1, 0, none⟩ (.int .i64 p0)).setCell ⟨w.heap.size + 1 + 1, 1, none⟩ (.bool pn)).setCell ⟨w.heap.size + 1 + 1, 2, none⟩ (.slice pa pl pc)).setCell ⟨w.heap.size + 1 + 1, 3, none⟩ (.int .i64 q0)).setCell ⟨w.heap.size + 1 + 1, 4, none⟩ (.bool qn)).setCell ⟨w.heap.size + 1 + 1, 5, none⟩ (.slice qa ql qc)) = W6 w6 (w.heap.size + 1 + 1) (.int .i64 p0) (.bool pn) (.slice pa pl pc) (.int .i64 q0) (.bool qn) (.slice qa ql qc) := rfl; rw [hWW]; generalize W6 w6 (w.heap.size + 1 + 1) (.int .i64 p0) (.bool pn) (.slice pa pl pc) (.int .i64 q0) (.bool qn) (.slice qa ql qc) = W9 at *; obtain ⟨m0, m1, m2, m3, m4, m5⟩ := hZ.c6; refine bodyPost_ret (v := .agg #[.int .i64 p0, .bool pn, .slice pa pl pc, .int .i64 q0, .bool qn, .slice qa ql qc]) ?_ rfl ⟨_, _, _, rfl, ⟨p0, pn, pa, pl, pc, q0, qn, qa, ql, qc, rfl, hP9, hQ9⟩, HLOW.o, hB9⟩; simp [results, Tryz.results66, go_sem, m0, m1, m2, m3, m4, m5]
  have hone := HGO.o; rw [decide_eq_false hg1] at hone; obtain ⟨ng, tg, hzg, vg⟩ := HG6.o; have HZG := Hd hzg; have HVG := Hd vg; have HLEN : Hid (tg.length ≤ 1000 ∧ tg ≠ []) := gcd_len2 ng n2 tg t2 (x) (y) HYP.o hzg.2.1 HZ6.o.2.1 vg HVV.o.2 len2; clear hzg vg
  by_cases hz : gl = 0
  case' pos =>
   have y1 : ((gl : Int) == 0) = true := by rw [beq_iff_eq]; omega
   have y2 : (g0 == 1) = false := by rw [y1] at hone; exact hone
  case' neg =>
   have y1 : ((gl : Int) == 0) = false := by rw [beq_eq_false_iff_ne]; omega
  all_goals
   rw [y1]; clear hone hz
   go_wp2_with fail
   refine (l1Div_any B _ _ n1 ng t1 tg _ (by have := HBW.o; have := HB6.o.size; omega) HZ6.o.1 HZG.o (by omega) (by have := HLEN.o.1; omega) HLEN.o.2).mono ?_; rintro e w7 ⟨za, zr, qa1, ra1, rfl, ⟨hna, hnr⟩, hda, hb7⟩; rw [HVV.o.1, HVG.o] at hda; have HDA := Hd hda; obtain ⟨d0, dn, da, dl, dc, rfl⟩ := hna.shape; obtain ⟨e0, en, ea, el, ec, rfl⟩ := hnr.shape; obtain ⟨W8, hW8⟩ := exW ((w7.alloc (.cells #[.int .i64 d0, .bool dn, .slice da dl dc] 54)).alloc (.cells #[.int .i64 e0, .bool en, .slice ea el ec] 54)); have HW8 := Hd hW8; have hb8 : Up w7 W8 := by rw [← hW8]; exact below_al (below_alloc _ _) _
   have hax : Bx W8 w7.heap.size [.int .i64 d0, .bool dn, .slice da dl dc] := by rw [← hW8]; exact (bx_new w7 _ _).alloc _
   have hb68 : Up w6 W8 := hb7.trans (hb8.mono hb7.size); have HM8 := Hd (HM6.o.below (N := w6.heap.size) HS6.o hb68); have HB8 := Hd (HB6.o.trans (hb68.mono HB6.o.size)); have HS8 : Hid (w.heap.size + 3 ≤ W8.heap.size) := Nat.le_trans HS6.o hb68.size; have HZ8 := Hd (And.intro (HZ6.o.2.below hb68) (HZG.o.below hb68)); have HNA : Hid (IsN B W8 (.agg #[.int .i64 d0, .bool dn, .slice da dl dc]) qa1) := (hna.below hb8).mono (by have := HBW.o; have := HB6.o.size; omega); have HAX : Hid (∀ W, Up W8 W → Bx W w7.heap.size [.int .i64 d0, .bool dn, .slice da dl dc]) := fun W hW => hax.below hax.lt hW; have hg8 := HGX6.o W8 hb68; have g1'' := hg8.cell 0; have g2'' := hg8.cell 1; have g3'' := hg8.cell 2; have b0' := HM8.o.b.cell 0; have b1' := HM8.o.b.cell 1; have b2' := HM8.o.b.cell 2; simp only [List.getElem?_cons_zero, List.getElem?_cons_succ] at g1'' g2'' g3'' b0' b1' b2'; clear hna hnr hda hb7 hW8 hb8 hax hb68 hg8 a0 a1 a2 b0 b1 b2 g1' g2' g3'
   go_upto_region 10 with fail
   rw [HW8.o]
   go_wp2_with fail
   refine (l1Div_any B _ _ n2 ng t2 tg W8 (by have := HBW.o; have := HB8.o.size; omega) HZ8.o.1 HZ8.o.2 (by omega) (by have := HLEN.o.1; omega) HLEN.o.2).mono ?_; rintro e w9 ⟨zb, zs, qb1, rb1, rfl, ⟨hnb, hns⟩, hdb, hb9⟩; rw [HVV.o.2, HVG.o] at hdb; have HLO := Hd (low_of_div (x) (y) (gcdI (x) (y)) qa1 ra1 qb1 rb1 (by have := HYP.o; omega) (by rw [if_neg (by have := HYP.o; omega)]) HDA.o hdb); obtain ⟨i0, iN, ia, il, ic, rfl⟩ := hnb.shape; obtain ⟨j0, jn, ja, jl, jc, rfl⟩ := hns.shape; obtain ⟨W10, hW10⟩ := exW ((w9.alloc (.cells #[.int .i64 i0, .bool iN, .slice ia il ic] 54)).alloc (.cells #[.int .i64 j0, .bool jn, .slice ja jl jc] 54)); have HW10 := Hd hW10; have hb10 : Up w9 W10 := by rw [← hW10]; exact below_al (below_alloc _ _) _
   have hbx : Bx W10 w9.heap.size [.int .i64 i0, .bool iN, .slice ia il ic] := by rw [← hW10]; exact (bx_new w9 _ _).alloc _
   have hb810 : Up W8 W10 := hb9.trans (hb10.mono hb9.size); have HM10 := Hd (HM8.o.below (N := W8.heap.size) HS8.o hb810); have HB10 := Hd (HB8.o.trans (hb810.mono HB8.o.size)); have HP10 : Hid (NumZ B W10 (.agg #[.int .i64 d0, .bool dn, .slice da dl dc]) qa1 1000) := numZ_of (HNA.o.below hb810) t1 HZ6.o.1.1 (low_len1 HLO.o HVV.o.1) len1; have HQ10 : Hid (NumZ B W10 (.agg #[.int .i64 i0, .bool iN, .slice ia il ic]) qb1 1000) := numZ_of ((hnb.below hb10).mono (by have := HBW.o; have := HB8.o.size; omega)) t2 HZ6.o.2.1 (low_len2 HLO.o HVV.o.2) len2; have HLOW := Hd (HL.o _ _ HLO.o); have hax := HAX.o W10 hb810; obtain ⟨u0, u1, u2⟩ := hax.c3; obtain ⟨v0, v1, v2⟩ := hbx.c3; clear hnb hns hdb hb9 hW10 hb10 hbx hb810 hax b0' b1' b2' g1'' g2'' g3''
   go_upto_region 11 with fail
   rw [HW10.o]; obtain ⟨r0, r1, r2, r3, r4, r5⟩ := HM10.o.r.c6; obtain ⟨f0, f1, f2, f3, f4, f5⟩ := HM10.o.r.f6
   go_wp2
   have hnR : NoInt W10 (w.heap.size + 1 + 1) := noInt_of HM10.o.r (by simp); have hk := keeps6 W10 (w.heap.size + 1 + 1) (.int .i64 d0) (.bool dn) (.slice da dl dc) (.int .i64 i0) (.bool iN) (.slice ia il ic); have hP9 := HP10.o.keeps hnR hnR hk; have hQ9 := HQ10.o.keeps hnR hnR hk; have hB9 := set6 HB10.o (w.heap.size + 1 + 1) (by omega) (.int .i64 d0) (.bool dn) (.slice da dl dc) (.int .i64 i0) (.bool iN) (.slice ia il ic); have hZ := HM10.o.r.put6 (.int .i64 d0) (.bool dn) (.slice da dl dc) (.int .i64 i0) (.bool iN) (.slice ia il ic); have hWW : ((((((W10.setCell ⟨w.heap.size + 1 + 1, 0, none⟩ (.int .i64 d0)).setCell ⟨w.heap.size + 1 + 1, 1, none⟩ (.bool dn)).setCell ⟨w.heap.size + 1 + 1, 2, none⟩ (.slice da dl dc)).setCell ⟨w.heap.size + 1 + 1, 3, none⟩ (.int .i64 i0)).setCell ⟨w.heap.size + 1 + 1, 4, none⟩ (.bool iN)).setCell ⟨w.heap.size + 1 + 1, 5, none⟩ (.slice ia il ic)) = W6 W10 (w.heap.size + 1 + 1) (.int .i64 d0) (.bool dn) (.slice da dl dc) (.int .i64 i0) (.bool iN) (.slice ia il ic) := rfl; rw [hWW]; generalize W6 W10 (w.heap.size + 1 + 1) (.int .i64 d0) (.bool dn) (.slice da dl dc) (.int .i64 i0) (.bool iN) (.slice ia il ic) = W9 at *; obtain ⟨m0, m1, m2, m3, m4, m5⟩ := hZ.c6; refine bodyPost_ret (v := .agg #[.int .i64 d0, .bool dn, .slice da dl dc, .int .i64 i0, .bool iN, .slice ia il ic]) ?_ rfl ⟨_, _, _, rfl, ⟨d0, dn, da, dl, dc, i0, iN, ia, il, ic, rfl, hP9, hQ9⟩, HLOW.o, hB9⟩; simp [results, Tryz.results66, go_sem, m0, m1, m2, m3, m4, m5]
theorem isZ_len {B : Nat} {w : World} {z0 : Int} {zn : Bool} {za : Option Addr} {zl zc : Nat} {neg : Bool} {t : List Nat} (hz : IsZ B w (.agg #[.int .i64 z0, .bool zn, .slice za zl zc]) neg t) : (zl = 0 ∧ t.length ≤ 2) ∨ (zl = t.length ∧ 2 < t.length ∧ zl ≤ maxLen) := by
 obtain ⟨_, _, h3⟩ := hz
 rcases h3 with ⟨h3, v, e, p, c, rfl, hl, hcap, _⟩ | ⟨h3, e⟩
 ·simp at e; exact .inr ⟨e.2.2.2.1, h3, by omega⟩
 simp at e; exact .inl ⟨e.2.2.2.1, h3⟩
theorem IsQN.below {B : Nat} {w w' : World} {z : Value} {x y : Int} (h : IsQN B w z x y) (hb : Up w w') : IsQN B w' z x y := by
 obtain ⟨p0, pn, pa, pl, pc, q0, qn, qa, ql, qc, e, h1, h2⟩ := h; exact ⟨p0, pn, pa, pl, pc, q0, qn, qa, ql, qc, e, h1.below hb, h2.below hb⟩
theorem digC_le (t : List Nat) : digC t ≤ 9 * t.length + 1 := by
 have := textD_len t; unfold digC; split <;> omega
theorem full_size (ng : Bool) (t : List Nat) (h : t.length ≤ 600) : (fullT ng t).size ≤ 6000 := by
 have h1 := textD_len t; unfold fullT
 split
 ·rw [strB_size]; decide
 split
 ·rw [strB_size, List.length_cons]; omega
 rw [strB_size]; omega
set_option maxRecDepth 100000 in
set_option maxHeartbeats 1000000 in
theorem l2Fits_any (B : Nat) (p0 : Int) (pn : Bool) (pa : Option Addr) (pl pc : Nat) (q0 : Int) (qn : Bool) (qa : Option Addr) (ql qc : Nat) (n1 n2 : Bool) (t1 t2 : List Nat) (w : World) (hBw : B ≤ w.heap.size)
 (hz1 : IsZ B w (.agg #[.int .i64 p0, .bool pn, .slice pa pl pc]) n1 t1) (hz2 : IsZ B w (.agg #[.int .i64 q0, .bool qn, .slice qa ql qc]) n2 t2) (h1 : t1.length ≤ 600) (h2 : t2.length ≤ 600) :
 Calls Tryz.prog 113 #[.agg #[.int .i64 p0, .bool pn, .slice pa pl pc, .int .i64 q0, .bool qn, .slice qa ql qc], .int .i64 2500] w fun e w' => e = .returned (.bool (decide (digC t1 ≤ 2500 ∧ digC t2 ≤ 2500))) ∧ Up w w' := by
 have hl1 := isZ_len hz1; have hl2 := isZ_len hz2; have HZ1 := Hd hz1; have HZ2 := Hd hz2; have HBW := Hd hBw; clear hz1 hz2 hBw; obtain ⟨W0, hW0⟩ := exW (w.alloc (.cells #[.int .i64 p0, .bool pn, .slice pa pl pc, .int .i64 q0, .bool qn, .slice qa ql qc] 70)); have HW0 := Hd hW0; have HB0 : Hid (Up w W0) := by unfold Hid; rw [← hW0]; exact below_alloc _ _
 have hx1 : Bx W0 w.heap.size [.int .i64 p0, .bool pn, .slice pa pl pc, .int .i64 q0, .bool qn, .slice qa ql qc] := by rw [← hW0]; exact bx_new w _ _
 have HX : Hid (∀ W, Up W0 W → Bx W w.heap.size [.int .i64 p0, .bool pn, .slice pa pl pc, .int .i64 q0, .bool qn, .slice qa ql qc]) := fun W hW => hx1.below hx1.lt hW; obtain ⟨k0, k1, k2⟩ := hx1.c3; clear hW0 hx1; have HD1 : Hid (digC t1 ≤ 9 * t1.length + 1) := digC_le t1; have HD2 : Hid (digC t2 ≤ 9 * t2.length + 1) := digC_le t2; obtain ⟨d1, hd1⟩ : ∃ d, digC t1 = d := ⟨_, rfl⟩; obtain ⟨d2, hd2⟩ : ∃ d, digC t2 = d := ⟨_, rfl⟩; have HE1 := Hd hd1; have HE2 := Hd hd2; rw [hd1] at HD1; rw [hd2] at HD2; rw [hd1, hd2]; have b1 : d1 ≤ 6000 := by have := HD1.o; omega
 have b2 : d2 ≤ 6000 := by have := HD2.o; omega
 have HL := Hd (And.intro hl1 hl2); clear hl1 hl2 hd1 hd2
 -- what stands behind the question whether both are small
 have rest : ∀ W1, Up W0 W1 → Hid (Calls Tryz.prog 90 #[.agg #[.int .i64 p0, .bool pn, .slice pa pl pc]] W1 (fun e w' => e = .returned (.int .i64 (d1 : Nat)) ∧ Up W1 w')) := fun W1 hW1 => by
  show Calls _ _ _ _ _
  refine (l1Digits_any B _ n1 t1 W1 (HZ1.o.below (HB0.o.trans (hW1.mono HB0.o.size))) (by have := HBW.o; have := HB0.o.size; have := hW1.size; omega) h1).mono ?_; rintro e w' ⟨rfl, hb⟩; exact ⟨by rw [HE1.o], hb⟩
 have rest2 : ∀ W1, Up W0 W1 → Hid (Calls Tryz.prog 90 #[.agg #[.int .i64 q0, .bool qn, .slice qa ql qc]] W1 (fun e w' => e = .returned (.int .i64 (d2 : Nat)) ∧ Up W1 w')) := fun W1 hW1 => by
  show Calls _ _ _ _ _
  refine (l1Digits_any B _ n2 t2 W1 (HZ2.o.below (HB0.o.trans (hW1.mono HB0.o.size))) (by have := HBW.o; have := HB0.o.size; have := hW1.size; omega) h2).mono ?_; rintro e w' ⟨rfl, hb⟩; exact ⟨by rw [HE2.o], hb⟩
 have REST := Hd rest; have REST2 := Hd rest2; clear rest rest2
 go_enter Tryz.func113, Tryz.ntmps113
 go_upto_region 1 with fail
 rw [HW0.o]
 go_wp2_with fail
 refine (l1IsSmall_ex p0 pn pa pl pc W0).mono ?_; rintro e w1 ⟨rfl, hw1⟩; have hb1 : Up W0 w1 := by rw [hw1]; exact below_alloc _ _
 have HQ1 := Hd hb1; have hx := HX.o w1 hb1; clear hw1 hb1 k0 k1 k2; obtain ⟨k0, k1, k2, k3, k4, k5⟩ := hx.c6; clear hx
 by_cases hpz : pl = 0
 ·have z : ((pl : Int) == 0) = true := by rw [beq_iff_eq]; omega
  have HPZ := Hd hpz; rw [z]; clear z hpz
  go_wp2_with fail
  refine (l1IsSmall_ex q0 qn qa ql qc w1).mono ?_; rintro e w2 ⟨rfl, hw2⟩; have hb2 : Up w1 w2 := by rw [hw2]; exact below_alloc _ _
  have HQ2 := Hd (HQ1.o.trans (hb2.mono HQ1.o.size)); have hx := HX.o w2 HQ2.o; clear hw2 hb2 k0 k1 k2 k3 k4 k5; obtain ⟨k0, k1, k2, k3, k4, k5⟩ := hx.c6; clear hx
  by_cases hqz : ql = 0
  ·have z : ((ql : Int) == 0) = true := by rw [beq_iff_eq]; omega
   have HE : Hid (true = decide (d1 ≤ 2500 ∧ d2 ≤ 2500)) := by
    unfold Hid
    have := HL.o; have := HPZ.o; have := HD1.o; have := HD2.o; rw [eq_comm, decide_eq_true_iff]; omega
   have HB9 := Hd (HB0.o.trans (HQ2.o.mono HB0.o.size)); rw [z]; clear z hqz
   go_wp2
   go_ret
   exact ⟨ret_bool HE.o, HB9.o⟩
  have z : ((ql : Int) == 0) = false := by rw [beq_eq_false_iff_ne]; omega
  rw [z]; clear z hqz
  go_wp2_with fail
  refine (REST.o w2 HQ2.o).o.mono ?_; rintro e w3 ⟨rfl, hb⟩; have HQ3 := Hd (HQ2.o.trans (hb.mono HQ2.o.size)); have hx := HX.o w3 HQ3.o; clear hb k0 k1 k2 k3 k4 k5; have k3 := hx.cell 3; have k4 := hx.cell 4; have k5 := hx.cell 5; simp only [List.getElem?_cons_zero, List.getElem?_cons_succ] at k3 k4 k5; clear hx
  by_cases hd : d1 ≤ 2500
  ·have z1 : decide ((d1 : Int) ≤ 2500) = true := by rw [decide_eq_true_iff]; omega
   go_wp2_with fail
   refine (REST2.o w3 HQ3.o).o.mono ?_; rintro e w4 ⟨rfl, hb⟩; have HB9 := Hd (HB0.o.trans ((HQ3.o.trans (hb.mono HQ3.o.size)).mono HB0.o.size)); clear hb k3 k4 k5
   by_cases hd2 : d2 ≤ 2500
   ·have z2 : decide ((d2 : Int) ≤ 2500) = true := by rw [decide_eq_true_iff]; omega
    go_wp2
    go_ret
    exact ⟨ret_bool (by simp [hd, hd2]), HB9.o⟩
   have z2 : decide ((d2 : Int) ≤ 2500) = false := by rw [decide_eq_false_iff_not]; omega
   go_wp2
   go_ret
   exact ⟨ret_bool (by simp [hd2]), HB9.o⟩
  have z1 : decide ((d1 : Int) ≤ 2500) = false := by rw [decide_eq_false_iff_not]; omega
  have HB9 := Hd (HB0.o.trans (HQ3.o.mono HB0.o.size))
  go_wp2
  go_ret
  exact ⟨ret_bool (by simp [hd]), HB9.o⟩
 have z : ((pl : Int) == 0) = false := by rw [beq_eq_false_iff_ne]; omega
 rw [z]; clear z hpz
 go_wp2_with fail
 refine (REST.o w1 HQ1.o).o.mono ?_; rintro e w2 ⟨rfl, hb⟩; have HQ2 := Hd (HQ1.o.trans (hb.mono HQ1.o.size)); have hx := HX.o w2 HQ2.o; clear hb k0 k1 k2 k3 k4 k5; have k3 := hx.cell 3; have k4 := hx.cell 4; have k5 := hx.cell 5; simp only [List.getElem?_cons_zero, List.getElem?_cons_succ] at k3 k4 k5; clear hx
 by_cases hd : d1 ≤ 2500
 ·have z1 : decide ((d1 : Int) ≤ 2500) = true := by rw [decide_eq_true_iff]; omega
  go_wp2_with fail
  refine (REST2.o w2 HQ2.o).o.mono ?_; rintro e w3 ⟨rfl, hb⟩; have HB9 := Hd (HB0.o.trans ((HQ2.o.trans (hb.mono HQ2.o.size)).mono HB0.o.size)); clear hb k3 k4 k5
  by_cases hd2 : d2 ≤ 2500
  ·have z2 : decide ((d2 : Int) ≤ 2500) = true := by rw [decide_eq_true_iff]; omega
   go_wp2
   go_ret
   exact ⟨ret_bool (by simp [hd, hd2]), HB9.o⟩
  have z2 : decide ((d2 : Int) ≤ 2500) = false := by rw [decide_eq_false_iff_not]; omega
  go_wp2
  go_ret
  exact ⟨ret_bool (by simp [hd2]), HB9.o⟩
 have z1 : decide ((d1 : Int) ≤ 2500) = false := by rw [decide_eq_false_iff_not]; omega
 have HB9 := Hd (HB0.o.trans (HQ2.o.mono HB0.o.size))
 go_wp2
 go_ret
 exact ⟨ret_bool (by simp [hd]), HB9.o⟩
set_option maxRecDepth 100000 in
set_option maxHeartbeats 1000000 in
theorem l2Text_any (B : Nat) (p0 : Int) (pn : Bool) (pa : Option Addr) (pl pc : Nat) (q0 : Int) (qn : Bool) (qa : Option Addr) (ql qc : Nat) (n1 n2 : Bool) (t1 t2 : List Nat) (x y : Int) (w : World) (hBw : B ≤ w.heap.size)
 (hQ : IsQN B w (.agg #[.int .i64 p0, .bool pn, .slice pa pl pc, .int .i64 q0, .bool qn, .slice qa ql qc]) x y)
 (hz1 : IsZ B w (.agg #[.int .i64 p0, .bool pn, .slice pa pl pc]) n1 t1) (hz2 : IsZ B w (.agg #[.int .i64 q0, .bool qn, .slice qa ql qc]) n2 t2) (h1 : t1.length ≤ 600) (h2 : t2.length ≤ 600) :
 Calls Tryz.prog 65 #[.agg #[.int .i64 p0, .bool pn, .slice pa pl pc, .int .i64 q0, .bool qn, .slice qa ql qc]] w fun e w' => e = .returned (.string (if y = 1 then fullT (negOf n1 t1) t1 else fullT (negOf n1 t1) t1 ++ ⟨#[47]⟩ ++ fullT (negOf n2 t2) t2)) ∧ Up w w' := by
 have HZ1 := Hd hz1; have HZ2 := Hd hz2; have HBW := Hd hBw; have HQN := Hd hQ; clear hz1 hz2 hBw hQ; obtain ⟨W0, hW0⟩ := exW (w.alloc (.cells #[.int .i64 p0, .bool pn, .slice pa pl pc, .int .i64 q0, .bool qn, .slice qa ql qc] 70)); have HW0 := Hd hW0; have HB0 : Hid (Up w W0) := by unfold Hid; rw [← hW0]; exact below_alloc _ _
 have hx1 : Bx W0 w.heap.size [.int .i64 p0, .bool pn, .slice pa pl pc, .int .i64 q0, .bool qn, .slice qa ql qc] := by rw [← hW0]; exact bx_new w _ _
 have HX : Hid (∀ W, Up W0 W → Bx W w.heap.size [.int .i64 p0, .bool pn, .slice pa pl pc, .int .i64 q0, .bool qn, .slice qa ql qc]) := fun W hW => hx1.below hx1.lt hW; obtain ⟨k0, k1, k2, k3, k4, k5⟩ := hx1.c6; clear hW0 hx1; have REST : Hid (∀ W1, Up W0 W1 → Calls Tryz.prog 91 #[.agg #[.int .i64 p0, .bool pn, .slice pa pl pc]] W1 (fun e w' => e = .returned (.string (fullT (negOf n1 t1) t1)) ∧ Up W1 w')) := fun W1 hW1 =>
  l1Text_any B _ n1 t1 W1 (HZ1.o.below (HB0.o.trans (hW1.mono HB0.o.size))) (by have := HBW.o; have := HB0.o.size; have := hW1.size; omega) h1
 have REST2 : Hid (∀ W1, Up W0 W1 → Calls Tryz.prog 91 #[.agg #[.int .i64 q0, .bool qn, .slice qa ql qc]] W1 (fun e w' => e = .returned (.string (fullT (negOf n2 t2) t2)) ∧ Up W1 w')) := fun W1 hW1 =>
  l1Text_any B _ n2 t2 W1 (HZ2.o.below (HB0.o.trans (hW1.mono HB0.o.size))) (by have := HBW.o; have := HB0.o.size; have := hW1.size; omega) h2
 have HS1 : Hid ((fullT (negOf n1 t1) t1).size ≤ 6000) := full_size _ _ h1; have HS2 : Hid ((fullT (negOf n2 t2) t2).size ≤ 6000) := full_size _ _ h2; obtain ⟨f1, hf1⟩ : ∃ f, fullT (negOf n1 t1) t1 = f := ⟨_, rfl⟩; obtain ⟨f2, hf2⟩ : ∃ f, fullT (negOf n2 t2) t2 = f := ⟨_, rfl⟩; rw [hf1] at REST HS1 ⊢; rw [hf2] at REST2 HS2 ⊢; clear hf1 hf2
 go_enter Tryz.func65, Tryz.ntmps65
 go_upto_region 1 with fail
 rw [HW0.o]
 go_wp2_with fail
 refine (l2Whole_any B _ x y W0 (by have := HBW.o; have := HB0.o.size; omega) (HQN.o.below HB0.o)).mono ?_; rintro e w1 ⟨rfl, hb1⟩; have HQ1 := Hd hb1; have hx := HX.o w1 hb1; clear hb1 k0 k1 k2 k3 k4 k5; obtain ⟨k0, k1, k2, k3, k4, k5⟩ := hx.c6; clear hx
 by_cases hy : y = 1
 ·have z : decide (y = 1) = true := decide_eq_true hy; have HY := Hd hy; rw [z]; clear z hy
  go_wp2_with fail
  refine (REST.o w1 HQ1.o).mono ?_; rintro e w2 ⟨rfl, hb⟩; have HB9 := Hd (HB0.o.trans ((HQ1.o.trans (hb.mono HQ1.o.size)).mono HB0.o.size)); clear hb k0 k1 k2 k3 k4 k5
  go_wp2
  go_ret
  exact ⟨by first | rfl | (rw [if_pos HY.o]; rfl), HB9.o⟩
 have z : decide (y = 1) = false := decide_eq_false hy; have HY := Hd hy; rw [z]; clear z hy; have e47 : (⟨#[47]⟩ : ByteArray).size = 1 := rfl; have hs1 := HS1.o; have hs2 := HS2.o; have hc1 : (f1 ++ (⟨#[47]⟩ : ByteArray)).size ≤ 7000 := by rw [ByteArray.size_append]; omega
 have hc2 : (f1 ++ (⟨#[47]⟩ : ByteArray) ++ f2).size ≤ 14000 := by rw [ByteArray.size_append]; omega
 go_wp2_with fail
 go_region_with (first
  | (go_at_call_of 91 (Value.int IntKind.i64 p0); refine (REST.o _ ?_).mono ?_
     ·exact HQ1.o.drew
     rintro e wa ⟨rfl, hba⟩; have HQ2 : Hid (Up W0 wa) := HQ1.o.drew.trans (hba.mono HQ1.o.size); have hx := HX.o wa HQ2.o; have m3 := hx.cell 3; have m4 := hx.cell 4; have m5 := hx.cell 5; simp only [List.getElem?_cons_zero, List.getElem?_cons_succ] at m3 m4 m5; clear hx hba)
  | (go_at_call_of 91 (Value.int IntKind.i64 q0); refine (REST2.o _ ?_).mono ?_
     ·exact HQ2.o
     rintro e wb ⟨rfl, hbb⟩; have HQ3 : Hid (Up W0 wb) := HQ2.o.trans (hbb.mono HQ2.o.size); clear hbb))
 all_goals
  go_wp2
  go_ret
  exact ⟨by first | rfl | (rw [if_neg HY.o]; rfl), HB0.o.trans (HQ3.o.mono HB0.o.size)⟩
theorem textT_dig (neg : Bool) (t : List Nat) : textT (negOf neg t) t = if 2500 < digC t then strB [] else fullT (negOf neg t) t := by
 unfold textT textS fullT digC
 by_cases h0 : t.length = 0
 ·rw [if_pos h0, if_pos h0, if_pos h0, if_neg (by omega)]
 rw [if_neg h0, if_neg h0, if_neg h0]
theorem digC_ge (t : List Nat) (hok : okL t) (htr : isTrim t) (h : 280 < t.length) : 2500 < digC t := by
 have h1 := textD_ge t hok htr (by intro e; rw [e] at h; simp at h); unfold digC; rw [if_neg (by omega)]; omega
theorem full_ne (ng : Bool) (t : List Nat) (hok : okL t) (htr : isTrim t) : (fullT ng t).size ≠ 0 := by
 by_cases h0 : t.length = 0
 ·unfold fullT; rw [if_pos h0, strB_size]; decide
 have h1 := textD_ge t hok htr (by intro e; rw [e] at h0; simp at h0); rw [fullT_size ng t h0]; omega
theorem one_len {n : Bool} {t : List Nat} {y : Int} (htr : isTrim t) (e : sg n (val t) = y) (hy : y = 1) : t.length ≤ 1 := by
 have h1 : val t = 1 := by
  have h := congrArg Int.natAbs e; rw [sg_abs, hy] at h; exact h
 have h2 : okL [1] := fun x hx => by simp at hx; omega
 have := lenOfLe t [1] htr h2 (by rw [h1]; simp [val])
 simpa using this
def toldT (y : Int) (n1 n2 : Bool) (t1 t2 : List Nat) : ByteArray := if digC t1 ≤ 2500 ∧ digC t2 ≤ 2500 then if y = 1 then fullT (negOf n1 t1) t1 else fullT (negOf n1 t1) t1 ++ ⟨#[47]⟩ ++ fullT (negOf n2 t2) t2 else ⟨#[]⟩
theorem told_text {x y : Int} {n1 n2 : Bool} {t1 t2 : List Nat} (o1 : okL t1) (r1 : isTrim t1) (e1 : sg n1 (val t1) = x) (o2 : okL t2) (r2 : isTrim t2) (e2 : sg n2 (val t2) = y) : TextR x y (toldT y n1 n2 t1 t2) := by
 have hT1 : IsText x (textT (negOf n1 t1) t1) := ⟨n1, t1, o1, r1, e1, rfl⟩; have hT2 : IsText y (textT (negOf n2 t2) t2) := ⟨n2, t2, o2, r2, e2, rfl⟩; have hd1 := textT_dig n1 t1; have hd2 := textT_dig n2 t2; unfold TextR toldT
 by_cases hy : y = 1
 ·rw [if_pos hy, if_pos hy]; have hl := one_len r2 e2 hy; have h2 := digC_le t2
  by_cases d1 : digC t1 ≤ 2500
  ·rw [if_pos ⟨d1, by omega⟩]; rw [if_neg (by omega)] at hd1; rw [← hd1]; exact hT1
  rw [if_neg (fun h => d1 h.1)]; rw [if_pos (by omega)] at hd1; rw [hd1] at hT1; exact hT1
 rw [if_neg hy, if_neg hy]; refine ⟨_, _, hT1, hT2, ?_⟩
 by_cases d1 : digC t1 ≤ 2500
 ·rw [if_neg (by omega)] at hd1
  by_cases d2 : digC t2 ≤ 2500
  ·rw [if_neg (by omega)] at hd2; rw [if_pos ⟨d1, d2⟩, hd1, hd2, if_neg (fun h => h.elim (full_ne _ _ o1 r1) (full_ne _ _ o2 r2))]
  rw [if_pos (by omega)] at hd2; rw [if_neg (fun h => d2 h.2), if_pos (.inr (by rw [hd2, strB_size]; rfl))]
 rw [if_pos (by omega)] at hd1; rw [if_neg (fun h => d1 h.1), if_pos (.inl (by rw [hd1, strB_size]; rfl))]
set_option maxRecDepth 100000 in
set_option maxHeartbeats 1000000 in
theorem l2Told_any (B : Nat) (z : Value) (x y : Int) (w : World) (hBw : B ≤ w.heap.size) (h : IsQN B w z x y) :
 Calls Tryz.prog 58 #[z] w fun e w' => ∃ u, e = .returned (.string u) ∧ TextR x y u ∧ Up w w' := by
 have HQN := Hd h; obtain ⟨p0, pn, pa, pl, pc, q0, qn, qa, ql, qc, rfl, ⟨n1, t1, hz1, e1, _⟩, n2, t2, hz2, e2, _⟩ := h; have HT : Hid (TextR x y (toldT y n1 n2 t1 t2)) := told_text hz1.1 hz1.2.1 e1 hz2.1 hz2.2.1 e2; have hl1 := isZ_len hz1; have hl2 := isZ_len hz2; have HG1 : Hid (280 < t1.length → 2500 < digC t1) := digC_ge t1 hz1.1 hz1.2.1; have HG2 : Hid (280 < t2.length → 2500 < digC t2) := digC_ge t2 hz2.1 hz2.2.1; have HZ1 := Hd hz1; have HZ2 := Hd hz2; have HBW := Hd hBw; clear hz1 hz2 hBw e1 e2; obtain ⟨W0, hW0⟩ := exW (w.alloc (.cells #[.int .i64 p0, .bool pn, .slice pa pl pc, .int .i64 q0, .bool qn, .slice qa ql qc] 70)); have HW0 := Hd hW0; have HB0 : Hid (Up w W0) := by unfold Hid; rw [← hW0]; exact below_alloc _ _
 have hx1 : Bx W0 w.heap.size [.int .i64 p0, .bool pn, .slice pa pl pc, .int .i64 q0, .bool qn, .slice qa ql qc] := by rw [← hW0]; exact bx_new w _ _
 have HX : Hid (∀ W, Up W0 W → Bx W w.heap.size [.int .i64 p0, .bool pn, .slice pa pl pc, .int .i64 q0, .bool qn, .slice qa ql qc]) := fun W hW => hx1.below hx1.lt hW; obtain ⟨k0, k1, k2, k3, k4, k5⟩ := hx1.c6; clear hW0 hx1; unfold maxLen at hl1 hl2
 by_cases hp : 280 < pl
 ·have zz : decide (280 < (pl : Int)) = true := by rw [decide_eq_true_iff]; omega
  have HR : Hid (TextR x y ⟨#[]⟩) := by
   have h := HT.o; unfold toldT at h; rw [if_neg (fun hh => by have := HG1.o (by omega); omega)] at h; exact h
  clear hl1 hl2 hp
  go_enter Tryz.func58, Tryz.ntmps58
  go_upto_region 1 with fail
  rw [HW0.o]
  go_wp2
  go_ret
  exact ⟨_, rfl, HR.o, HB0.o⟩
 have zz : decide (280 < (pl : Int)) = false := by rw [decide_eq_false_iff_not]; omega
 by_cases hq : 280 < ql
 ·have zq : decide (280 < (ql : Int)) = true := by rw [decide_eq_true_iff]; omega
  have HR : Hid (TextR x y ⟨#[]⟩) := by
   have h := HT.o; unfold toldT at h; rw [if_neg (fun hh => by have := HG2.o (by omega); omega)] at h; exact h
  clear hl1 hl2 hp hq
  go_enter Tryz.func58, Tryz.ntmps58
  go_upto_region 1 with fail
  rw [HW0.o]
  go_wp2
  go_ret
  exact ⟨_, rfl, HR.o, HB0.o⟩
 have zq : decide (280 < (ql : Int)) = false := by rw [decide_eq_false_iff_not]; omega
 have hlen1 : t1.length ≤ 600 := by omega
 have hlen2 : t2.length ≤ 600 := by omega
 clear hl1 hl2 hp hq
 go_enter Tryz.func58, Tryz.ntmps58
 go_upto_region 1 with fail
 rw [HW0.o]
 go_wp2_with fail
 refine (l2Fits_any B p0 pn pa pl pc q0 qn qa ql qc n1 n2 t1 t2 W0 (by have := HBW.o; have := HB0.o.size; omega) (HZ1.o.below HB0.o) (HZ2.o.below HB0.o) hlen1 hlen2).mono ?_; rintro e w1 ⟨rfl, hb1⟩; have HQ1 := Hd hb1; have HB1 := Hd (HB0.o.trans (hb1.mono HB0.o.size)); have hx := HX.o w1 hb1; clear hb1 k0 k1 k2 k3 k4 k5
 by_cases hd : digC t1 ≤ 2500 ∧ digC t2 ≤ 2500
 ·have z2 : decide (digC t1 ≤ 2500 ∧ digC t2 ≤ 2500) = true := decide_eq_true hd; have HR : Hid (TextR x y (if y = 1 then fullT (negOf n1 t1) t1 else fullT (negOf n1 t1) t1 ++ ⟨#[47]⟩ ++ fullT (negOf n2 t2) t2)) := by
   have h := HT.o; unfold toldT at h; rw [if_pos hd] at h; exact h
  obtain ⟨k0, k1, k2, k3, k4, k5⟩ := hx.c6; rw [z2]; clear hx hd z2
  go_wp2_with fail
  refine (l2Text_any B p0 pn pa pl pc q0 qn qa ql qc n1 n2 t1 t2 x y w1 (by have := HBW.o; have := HB1.o.size; omega) (HQN.o.below HB1.o) (HZ1.o.below HB1.o) (HZ2.o.below HB1.o) hlen1 hlen2).mono ?_; rintro e w2 ⟨rfl, hb2⟩; have HB2 := Hd (HB1.o.trans (hb2.mono HB1.o.size)); obtain ⟨u, hu⟩ := exW (if y = 1 then fullT (negOf n1 t1) t1 else fullT (negOf n1 t1) t1 ++ ⟨#[47]⟩ ++ fullT (negOf n2 t2) t2); rw [hu] at HR ⊢; clear hb2 hu k0 k1 k2 k3 k4 k5
  go_wp2
  go_ret
  exact ⟨_, rfl, HR.o, HB2.o⟩
 have z2 : decide (digC t1 ≤ 2500 ∧ digC t2 ≤ 2500) = false := decide_eq_false hd; have HR : Hid (TextR x y ⟨#[]⟩) := by
  have h := HT.o; unfold toldT at h; rw [if_neg hd] at h; exact h
 rw [z2]; clear hx hd z2
 go_wp2
 go_ret
 exact ⟨_, rfl, HR.o, HB1.o⟩
end Go.Proofs.YtfmpapcfhoomkaaGreatDoor
