import Derived.Test.YtfhgfclfhghlcaaDoorCmpT
import Derived.Test.YtfhgfclfhghlcaaDoorCmpU
import Derived.Test.YtfhgfclfhghlcaaDoorCmpV
import Derived.Test.YtfhgfclfhghlcaaDoorCmpW
import Derived.Test.YtfhgfclfhghlcaaDoorCmpX
import Derived.Test.YtfhgfclfhghlcaaDoorCmpY
import Derived.Test.YtfhgfclfhghlcaaDoorCmpImpl
namespace Go.Proofs.YtfhgfclfhghlcaaDoor
open Go.ChangeShapes Go.WideShapes Go.ChangeAt Go.RowKit
theorem cmpL_anti (a b : List Nat) (ha : okL a) (hb : okL b) (ta : isTrim a) (tb : isTrim b) : cmpL b a = -cmpL a b := by
  rw [cmpL_ord a b ha hb ta tb, cmpL_ord b a hb ha tb ta]
  unfold ord
  split <;> split <;> (try split) <;> omega
theorem IsZ.form {B : Nat} {w : World} {z : Value} {na : Bool} {a : List Nat} (h : IsZ B w z na a) : ∃ x xn p l c, z = .agg #[.int .i64 x, .bool xn, .slice p l c] ∧ ngZ x xn l = negOf na a ∧ (l = 0 → z = .agg #[.int .i64 (sg na (val a)), .bool false, .slice none 0 0]) := by
  obtain ⟨h1, h2, h3⟩ := h
  rcases h3 with ⟨h3, v, rfl, p, c, rfl, _⟩ | ⟨h3, rfl⟩
  · refine ⟨_, _, _, _, _, rfl, ?_, fun e => by omega⟩
    unfold ngZ negOf
    have : 0 < a.length := by omega
    simp [this]
  · exact ⟨_, _, _, _, _, rfl, (negOf_small na a h3 h1 h2).symm, fun _ => rfl⟩
theorem l1Cmp_any (B : Nat) (za zb : Value) (na nb : Bool) (a b : List Nat) (w : World) (hBw : B ≤ w.heap.size) (hza : IsZ B w za na a) (hzb : IsZ B w zb nb b) :
    Calls Tryd.prog 40 #[za, zb] w fun e w' => e = .returned (.int .i64 (cmpI (negOf na a) (negOf nb b) a b)) ∧ Below w.heap.size w w' := by
  have hoa := hza.1; have hob := hzb.1; have hta := hza.2.1; have htb := hzb.2.1
  obtain ⟨x, xn, pa, la, ca, rfl, fa, ga⟩ := hza.form
  obtain ⟨y, yn, pb, lb, cb, rfl, fb, gb⟩ := hzb.form
  by_cases h0 : la = 0 ∧ lb = 0
  · rw [ga h0.1, gb h0.2, cmpI_ord na nb a b hoa hob hta htb]
    exact l1Cmp_small _ _ w
  have hz : ((la : Int) == 0) = false ∨ (((la : Int) == 0) = true ∧ ((lb : Int) == 0) = false) := by
    by_cases h : la = 0
    · exact .inr ⟨by rw [beq_iff_eq]; omega, by rw [beq_eq_false_iff_ne]; omega⟩
    · exact .inl (by rw [beq_eq_false_iff_ne]; omega)
  cases ea : negOf na a <;> cases eb : negOf nb b
  · rw [ea] at fa; rw [eb] at fb
    show Calls _ _ _ _ fun e w' => e = .returned (.int .i64 (cmpL a b)) ∧ _
    rcases hz with hz | ⟨hz, hz2⟩
    · exact l1Cmp_s1f B x y xn yn pa la ca pb lb cb na nb a b w hBw hz hza hzb fa fb
    · exact l1Cmp_s2f B x y xn yn pa la ca pb lb cb na nb a b w hBw hz hz2 hza hzb fa fb
  · rw [ea] at fa; rw [eb] at fb
    show Calls _ _ _ _ fun e w' => e = .returned (.int .i64 (1)) ∧ _
    rcases hz with hz | ⟨hz, hz2⟩
    · exact l1Cmp_ft1 x y xn yn pa la ca pb lb cb w hz fa fb
    · exact l1Cmp_ft2 x y xn yn pa la ca pb lb cb w hz hz2 fa fb
  · rw [ea] at fa; rw [eb] at fb
    show Calls _ _ _ _ fun e w' => e = .returned (.int .i64 (-1)) ∧ _
    rcases hz with hz | ⟨hz, hz2⟩
    · exact l1Cmp_tf1 x y xn yn pa la ca pb lb cb w hz fa fb
    · exact l1Cmp_tf2 x y xn yn pa la ca pb lb cb w hz hz2 fa fb
  · rw [ea] at fa; rw [eb] at fb
    show Calls _ _ _ _ fun e w' => e = .returned (.int .i64 (cmpL b a)) ∧ _
    rw [cmpL_anti a b hoa hob hta htb]
    rcases hz with hz | ⟨hz, hz2⟩
    · exact l1Cmp_s1t B x y xn yn pa la ca pb lb cb na nb a b w hBw hz hza hzb fa fb
    · exact l1Cmp_s2t B x y xn yn pa la ca pb lb cb na nb a b w hBw hz hz2 hza hzb fa fb
set_option maxRecDepth 100000 in
set_option maxHeartbeats 1000000 in
theorem specCmp_any (s t : ByteArray) (w : World) (hs : s.size ≤ maxLen) (ht : t.size ≤ maxLen) :
    Calls Tryd.prog 20 #[.string s, .string t] w fun e w' => e = .returned (.int .i64 (cmpF s t)) ∧ Below w.heap.size w w' := by
  cases hi : isIntB s
  · have HI : Hid (isIntB s = false) := hi
    have HR : Hid (cmpF s t = -2) := if_neg (fun h => by rw [hi] at h; cases h.1)
    clear hi
    go_enter Tryd.func20, Tryd.ntmps20
    go_wp2_with (go_at_call 24; refine (isInt_spec _ _ hs).mono ?_; rintro e w' ⟨rfl, hw'⟩; subst w'; rw [HI.out])
    go_ret
    exact ⟨ret_int HR.out.symm, Below.refl _ _⟩
  have HI : Hid (isIntB s = true) := hi
  cases hj : isIntB t
  · have HJ : Hid (isIntB t = false) := hj
    have HR : Hid (cmpF s t = -2) := if_neg (fun h => by rw [hj] at h; cases h.2)
    clear hi hj
    go_enter Tryd.func20, Tryd.ntmps20
    go_wp2_with fail
    refine (isInt_spec s _ hs).mono ?_
    rintro e w' ⟨rfl, hw'⟩
    subst w'
    rw [HI.out]
    go_wp2_with fail
    refine (isInt_spec t _ ht).mono ?_
    rintro e w' ⟨rfl, hw'⟩
    subst w'
    rw [HJ.out]
    go_wp2
    go_ret
    exact ⟨ret_int HR.out.symm, Below.refl _ _⟩
  have HJ : Hid (isIntB t = true) := hj
  have HR : Hid (cmpF s t = cmpI (sgn s) (sgn t) (lim s) (lim t)) := if_pos ⟨hi, hj⟩
  clear hi hj
  go_enter Tryd.func20, Tryd.ntmps20
  go_wp2_with fail
  refine (isInt_spec s _ hs).mono ?_
  rintro e w' ⟨rfl, hw'⟩
  subst w'
  rw [HI.out]
  go_wp2_with fail
  refine (isInt_spec t _ ht).mono ?_
  rintro e w' ⟨rfl, hw'⟩
  subst w'
  rw [HJ.out]
  go_wp2_with fail
  refine (l1Read_any s _ HI.out).mono ?_
  rintro e w1 ⟨z1, rfl, hz1, hb1⟩
  have HZ1 : Hid (IsZ w.heap.size w1 z1 (isNeg s) (lim s)) := hz1
  have HB1 : Hid (Below w.heap.size w w1) := hb1
  clear hz1 hb1
  go_wp2_with fail
  refine (l1Read_any t _ HJ.out).mono ?_
  rintro e w2 ⟨z2, rfl, hz2, hb2⟩
  have HZ2 : Hid (IsZ w.heap.size w2 z2 (isNeg t) (lim t)) := hz2.mono HB1.out.size
  have HZ1' : Hid (IsZ w.heap.size w2 z1 (isNeg s) (lim s)) := HZ1.out.below hb2
  have HB2 : Hid (Below w.heap.size w w2) := HB1.out.trans (hb2.mono HB1.out.size)
  clear hz2 hb2
  go_wp2_with fail
  refine (l1Cmp_any _ z1 z2 _ _ _ _ _ HB2.out.size HZ1'.out HZ2.out).mono ?_
  rintro e w3 ⟨rfl, hb3⟩
  have HB3 : Hid (Below w.heap.size w w3) := HB2.out.trans (hb3.mono HB2.out.size)
  clear hb3
  go_wp2
  go_ret
  exact ⟨ret_int HR.out.symm, HB3.out⟩
end Go.Proofs.YtfhgfclfhghlcaaDoor
