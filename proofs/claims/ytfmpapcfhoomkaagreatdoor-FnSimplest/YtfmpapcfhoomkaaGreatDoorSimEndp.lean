import Derived.Test.YtfmpapcfhoomkaaGreatDoorSimOnep
import Derived.Test.YtfmpapcfhoomkaaGreatDoorSimTwop
import Derived.Test.YtfmpapcfhoomkaaGreatDoorQQp
import Derived.Test.YtfmpapcfhoomkaaGreatDoorCurAllp
import Derived.Test.YtfmpapcfhoomkaaGreatDoorQXp
import Derived.Maps.AppendAt
import Derived.Deep.Onto
import Derived.Deep.DeepCutAuto
import Derived.Laws.OwnMore
import Derived.Test.YtfmpapcfhoomkaaGreatDoorRows
import Derived.Test.YtfmpapcfhoomkaaGreatDoorCards
import Derived.Test.YtfmpapcfhoomkaaGreatDoorTie
import Derived.Test.YtfmpapcfhoomkaaGreatDoorK3p
import Derived.WalkKit
import Derived.ProofKit
import Derived.OpenShut
import Derived.ShutString
import Derived.ChangeOld
import Derived.ChangeVars
import Derived.Below
import Derived.WalkSmall
import Derived.LaidMore
import Derived.Lay
import Derived.Stop.Joined
import Derived.SevenTiedAt
namespace Go.Proofs.YtfmpapcfhoomkaaGreatDoor
def inL (lo : Bool) (a b x y : Int) : Prop := a * y < x * b ∨ a * y = x * b ∧ lo = false
def inH (ho : Bool) (c d x y : Int) : Prop := x * d < c * y ∨ x * d = c * y ∧ ho = false
theorem inL_floor {lo : Bool} {a b x y : Int} (hb : 0 < b) (hy : 0 < y) (h : inL lo a b x y) : a / b * y ≤ x ∧ (¬ (b = 1 ∧ lo = false) → Int.gcd a b = 1 → a / b * y < x) := by
 obtain ⟨e1, r0, r1⟩ := div_parts a b hb; have e2 : a * y = a / b * y * b + (a - a / b * b) * y := by
  have : a * y = (a / b * b + (a - a / b * b)) * y := by rw [e1]
  rw [this, Int.add_mul, Int.mul_right_comm]
 have hr : 0 ≤ (a - a / b * b) * y := Int.mul_nonneg r0 (Int.le_of_lt hy); have hle : a / b * y * b ≤ x * b := by
  unfold inL at h
  rcases h with h | h <;> omega
 refine ⟨Int.le_of_mul_le_mul_right hle hb, fun hn hg => ?_⟩
 rcases Int.lt_or_eq_of_le hle with h1 | h1
 ·exact Int.lt_of_mul_lt_mul_right h1 (Int.le_of_lt hb)
 exfalso
 have h2 : (a - a / b * b) * y = 0 ∧ lo = false := by
  unfold inL at h
  rcases h with h | h
  ·omega
  exact ⟨by omega, h.2⟩
 have h3 : a - a / b * b = 0 := by
  rcases Int.mul_eq_zero.1 h2.1 with h4 | h4
  ·exact h4
  omega
 exact hn ⟨gcd_whole hg hb (show a = a / b * b by omega), h2.2⟩
theorem Sim.opt {lo : Bool} {a b : Int} {has ho : Bool} {c d p q : Int} (h : Sim lo a b has ho c d p q) : Ends lo a b has ho c d → (inL lo a b p q ∧ (has = true → inH ho c d p q)) ∧ ∀ x y, 0 < y → inL lo a b x y → (has = true → inH ho c d x y) → q ≤ y ∧ p ≤ x := by
 induction h using Sim.ind with
 | found lo a b has ho c d h =>
   intro hE; have hb := hE.b0; refine ⟨⟨?_, fun hh => ?_⟩, fun x y hy hL hH => ⟨by omega, ?_⟩⟩
   ·unfold inL simN
    split
    ·rename_i h1; exact .inr ⟨by rw [h1.1], h1.2⟩
    ·left
     obtain ⟨e1, r0, r1⟩ := div_parts a b hb; rw [Int.add_mul, Int.one_mul, Int.mul_one]; omega
   ·rcases h with h | h
    ·rw [h] at hh; cases hh
    ·unfold simH at h; unfold inH; rw [Int.mul_one]; exact h
   ·obtain ⟨f1, f2⟩ := inL_floor hb hy hL; have hf0 := Int.ediv_nonneg hE.a0 (Int.le_of_lt hb); unfold simN
    split
    ·rename_i h1; have e0 : a / b = a := by rw [h1.1, Int.ediv_one]
     rw [e0] at f1; have h2 : a * 1 ≤ a * y := Int.mul_le_mul_of_nonneg_left (by omega) hE.a0; omega
    ·rename_i h1; have h2 := f2 h1 hE.g; have h3 : a / b * 1 ≤ a / b * y := Int.mul_le_mul_of_nonneg_left (by omega) hf0; omega
 | step lo a b ho c d p q h hr ih =>
   intro hE; obtain ⟨hs, h1, h2, h3⟩ := ends_step hE h; have hnb : ¬ (b = 1 ∧ lo = false) := by
    intro hq; have h4 : simN lo a b = a := by unfold simN; rw [if_pos hq]
    rw [h4, hq.1, Int.ediv_one] at hs; omega
   obtain ⟨⟨iL, iH⟩, iO⟩ := ih h3; have bd := hr.bound h3; have hd := (hE.hi rfl).1; have hb := hE.b0; obtain ⟨e1, r0, r1⟩ := div_parts a b hb; have hf0 := Int.ediv_nonneg hE.a0 (Int.le_of_lt hb); clear ih hr hs h; have hfl := fun x y hy hL => (inL_floor (lo := lo) (a := a) (b := b) (x := x) (y := y) hb hy hL).2 hnb hE.g; generalize a / b = f at *; refine ⟨⟨?_, fun _ => ?_⟩, fun x y hy hL hH => ?_⟩
   ·-- the lower end
    unfold inL; have e2 : a * p = f * p * b + (a - f * b) * p := by
     have e3 : a * p = (f * b + (a - f * b)) * p := by rw [e1]
     rw [e3, Int.add_mul, Int.mul_right_comm]
    have e4 : (f * p + q) * b = f * p * b + q * b := Int.add_mul ..
    by_cases h0 : a - f * b ≠ 0
    ·have h5 := iH (decide_eq_true h0); unfold inH at h5; have e5 : p * (a - f * b) = (a - f * b) * p := Int.mul_comm ..; have e6 : b * q = q * b := Int.mul_comm ..
     rcases h5 with h5 | h5
     ·left; omega
     ·right; exact ⟨by omega, h5.2⟩
    ·left
     have h6 : a - f * b = 0 := by omega
     have h7 : (a - f * b) * p = 0 := by rw [h6, Int.zero_mul]
     have h8 : 0 < q * b := Int.mul_pos bd.2.1 hb; omega
   ·-- the upper end
    unfold inH; unfold inL at iL; have e2 : (f * p + q) * d = f * d * p + d * q := by rw [Int.add_mul, Int.mul_right_comm, Int.mul_comm q d]
    have e3 : c * p = f * d * p + p * (c - f * d) := by rw [Int.mul_sub, Int.mul_comm p c, Int.mul_comm p (f * d)]; omega
    rcases iL with h5 | h5
    ·left; omega
    ·right; exact ⟨by omega, h5.2⟩
   ·have hpos : 0 < x - f * y := by have := hfl x y hy hL; omega
    have hH' := hH rfl; have key := iO y (x - f * y) hpos (by
     unfold inL; unfold inH at hH'; have e2 : y * (c - f * d) = c * y - f * d * y := by rw [Int.mul_sub, Int.mul_comm y c, Int.mul_comm y (f * d)]
     have e3 : d * (x - f * y) = x * d - f * d * y := by rw [Int.mul_sub, Int.mul_comm d x, ← Int.mul_assoc, Int.mul_comm d f]
     rcases hH' with h5 | h5
     ·left; omega
     ·right; exact ⟨by omega, h5.2⟩) (fun h0 => by
     unfold inH; unfold inL at hL; have e2 : y * (a - f * b) = a * y - f * b * y := by rw [Int.mul_sub, Int.mul_comm y a, Int.mul_comm y (f * b)]
     have e3 : b * (x - f * y) = x * b - f * b * y := by rw [Int.mul_sub, Int.mul_comm b x, ← Int.mul_assoc, Int.mul_comm b f]
     rcases hL with h5 | h5
     ·left; omega
     ·right; exact ⟨by omega, h5.2⟩)
    refine ⟨key.2, ?_⟩; have h5 : f * p ≤ f * y := Int.mul_le_mul_of_nonneg_left key.2 hf0; omega
open Go.ChangeShapes Go.WideShapes Go.ChangeAt Go.RowKit
attribute [local go_sem ↓] ym_undef
def Btw (h1 o1 : Bool) (t1 : ByteArray) (h2 o2 : Bool) (t2 tx : ByteArray) (k1 k2 kx : Option Nat) : Prop :=
 OkE h1 t1 k1 ∧ OkE h2 t2 k2 ∧ ∃ x y, RatV tx kx x y ∧ (∀ a b, h1 = true → RatV t1 k1 a b → inL o1 a b x y) ∧ (∀ c d, h2 = true → RatV t2 k2 c d → inH o2 c d x y)
def BtwP (e : Ending) (w w' : World) (h1 o1 : Bool) (t1 : ByteArray) (h2 o2 : Bool) (t2 tx : ByteArray) (k1 k2 kx : Option Nat) : Prop := ∃ b : Bool, e = .returned (.bool b) ∧ (b = true ↔ Btw h1 o1 t1 h2 o2 t2 tx k1 k2 kx) ∧ Up w w'
theorem inL_ord (o1 : Bool) (a b x y : Int) : inL o1 a b x y ↔ (decide (ordI (x * b) (a * y) < 0) || (decide (ordI (x * b) (a * y) = 0) && o1)) = false := by
 unfold inL ordI
 rcases Int.lt_trichotomy (x * b) (a * y) with h | h | h
 ·rw [if_pos h]; have h1 : ¬ a * y < x * b := by omega
  have h2 : a * y ≠ x * b := by omega
  simp [h1, h2]
 ·rw [if_neg (by omega), if_neg (by omega)]
  cases o1 <;> simp [h.symm]
 rw [if_neg (by omega), if_pos h]; simp [h]
theorem inH_ord (o2 : Bool) (c d x y : Int) : inH o2 c d x y ↔ (decide (0 < ordI (x * d) (c * y)) || (decide (ordI (x * d) (c * y) = 0) && o2)) = false := by
 unfold inH ordI
 rcases Int.lt_trichotomy (x * d) (c * y) with h | h | h
 ·rw [if_pos h]; simp [h]
 ·rw [if_neg (by omega), if_neg (by omega)]
  cases o2 <;> simp [h]
 rw [if_neg (by omega), if_pos h]; have h1 : ¬ x * d < c * y := by omega
 have h2 : x * d ≠ c * y := by omega
 simp [h1, h2]
theorem cmp_of {s t : ByteArray} {ks kt : Option Nat} {r x y a b : Int} (h : IsResC s t r) (cs : IsCut s ks) (ct : IsCut t kt) (hs : RatV s ks x y) (ht : RatV t kt a b) : r = ordI (x * b) (a * y) := by
 obtain ⟨k, m, hk, hm, h⟩ := h; obtain rfl := isCut_unique hk cs; obtain rfl := isCut_unique hm ct
 rcases h with ⟨x1, y1, x2, y2, g1, g2, rfl⟩ | ⟨n, _⟩
 ·obtain ⟨rfl, rfl⟩ := ratV_one g1 hs; obtain ⟨rfl, rfl⟩ := ratV_one g2 ht; rfl
 exact absurd ⟨⟨_, _, hs⟩, _, _, ht⟩ n
set_option maxRecDepth 100000 in
set_option maxHeartbeats 8000000 in
theorem between_any (h1 o1 : Bool) (t1 : ByteArray) (h2 o2 : Bool) (t2 tx : ByteArray) (c1_ c2_ cx_ : Option Nat) (w : World) (ht1 : t1.size ≤ maxLen) (ht2 : t2.size ≤ maxLen) (htx : tx.size ≤ maxLen) (hk1 : IsCut t1 c1_) (hk2 : IsCut t2 c2_) (hkx : IsCut tx cx_) :
 Calls Tryz.prog 29 #[.agg #[.bool h1, .bool o1, .string t1], .agg #[.bool h2, .bool o2, .string t2], .string tx] w fun e w' => BtwP e w w' h1 o1 t1 h2 o2 t2 tx c1_ c2_ cx_ := by
 have HK1 := Hd hk1; have HK2 := Hd hk2; have HKX := Hd hkx; clear hk1 hk2 hkx; obtain ⟨W0, hW0⟩ := exW ((w.alloc (.cells #[.bool h1, .bool o1, .string t1] 31)).alloc (.cells #[.bool h2, .bool o2, .string t2] 31)); have HW0 := Hd hW0; have HB0 : Hid (Up w W0) := by unfold Hid; rw [← hW0]; exact below_al (below_alloc _ _) _
 have HS0 : Hid (W0.heap.size = w.heap.size + 2) := by show W0.heap.size = _; rw [← hW0]; simp
 have hx0_0 : Bx W0 (w.heap.size) [.bool h1, .bool o1, .string t1] := by
  rw [← hW0]; exact (bx_new w _ _).alloc _
 have hx0_1 : Bx W0 (w.heap.size + 1) [.bool h2, .bool o2, .string t2] := by
  rw [← hW0]; have h := bx_new (w.alloc (.cells #[.bool h1, .bool o1, .string t1] 31)) [.bool h2, .bool o2, .string t2] 31; rw [World.size_alloc] at h; exact h
 have HX0 : Hid (∀ W, Up W0 W → Bx W (w.heap.size) [.bool h1, .bool o1, .string t1] ∧ Bx W (w.heap.size + 1) [.bool h2, .bool o2, .string t2]) := fun W hW => ⟨hx0_0.below hx0_0.lt hW, hx0_1.below hx0_1.lt hW⟩; obtain ⟨k0, k1, k2⟩ := hx0_0.c3; obtain ⟨j0, j1, j2⟩ := hx0_1.c3; clear hW0 hx0_0 hx0_1
 go_enter Tryz.func29, Tryz.ntmps29
 go_upto_region 1 with fail
 rw [HW0.o]
 go_cut [31, 43, 59] (fun q31 q43 q59 wx => ∃ bad, q31 = .bool bad ∧ q43 = undef ∧ q59 = undef ∧ (bad = true → ¬ (OkE h1 t1 c1_ ∧ OkE h2 t2 c2_ ∧ ∃ x y, RatV tx cx_ x y)) ∧ (bad = false → OkE h1 t1 c1_ ∧ OkE h2 t2 c2_ ∧ ∃ x y, RatV tx cx_ x y) ∧ Up W0 wx)
 case first =>
  have TR : Hid (∀ (t : ByteArray) (k : Option Nat) (ht : t.size ≤ maxLen) (hk : IsCut t k) W, Calls Tryz.prog 57 #[.string t] W (fun e w' => ∃ b, e = .returned (.bool b) ∧ (b = true ↔ ∃ x y, RatV t k x y) ∧ Up W w')) := fun t k ht hk W => by
   refine (specIsRat_any t W ht).mono ?_; rintro e w' ⟨b, rfl, ⟨k', hk', hi⟩, hb⟩; obtain rfl := isCut_unique hk' hk; exact ⟨b, rfl, hi, hb⟩
  cases h1
  ·cases h2
   ·go_wp2_with fail
    refine (TR.o tx cx_ htx HKX.o _).mono ?_; rintro e wz ⟨b, rfl, hi, hb⟩; have HIX := Hd hi; have HBZ : Hid (Up W0 wz) := (Below.refl W0.heap.size W0).trans (hb.mono (Below.refl W0.heap.size W0).size); clear hi hb
    cases b
    ·go_wp2_with fail
     go_meet
     exact ⟨true, rfl, rfl, rfl, fun _ h => (Bool.noConfusion (HIX.o.2 h.2.2) : False), fun e => (by cases e), HBZ.o⟩
    ·go_wp2_with fail
     go_meet
     exact ⟨false, rfl, rfl, rfl, fun e => (by cases e), fun _ => ⟨fun e => (by cases e), fun e => (by cases e), HIX.o.1 (by first | rfl | trivial)⟩, HBZ.o⟩
   ·go_wp2_with fail
    refine (TR.o t2 c2_ ht2 HK2.o _).mono ?_; rintro e wy ⟨b, rfl, hi, hb⟩; have HI2 := Hd hi; have HBY : Hid (Up W0 wy) := (Below.refl W0.heap.size W0).trans (hb.mono (Below.refl W0.heap.size W0).size); clear hi hb
    cases b
    ·go_wp2_with fail
     go_meet
     exact ⟨true, rfl, rfl, rfl, fun _ h => (Bool.noConfusion (HI2.o.2 (h.2.1 rfl)) : False), fun e => (by cases e), HBY.o⟩
    ·go_wp2_with fail
     refine (TR.o tx cx_ htx HKX.o _).mono ?_; rintro e wz ⟨b, rfl, hi, hb⟩; have HIX := Hd hi; have HBZ : Hid (Up W0 wz) := HBY.o.trans (hb.mono HBY.o.size); clear hi hb
     cases b
     ·go_wp2_with fail
      go_meet
      exact ⟨true, rfl, rfl, rfl, fun _ h => (Bool.noConfusion (HIX.o.2 h.2.2) : False), fun e => (by cases e), HBZ.o⟩
     ·go_wp2_with fail
      go_meet
      exact ⟨false, rfl, rfl, rfl, fun e => (by cases e), fun _ => ⟨fun e => (by cases e), fun _ => HI2.o.1 (by first | rfl | trivial), HIX.o.1 (by first | rfl | trivial)⟩, HBZ.o⟩
  ·go_wp2_with fail
   refine (TR.o t1 c1_ ht1 HK1.o _).mono ?_; rintro e wv ⟨b, rfl, hi, hb⟩; have HI1 := Hd hi; have HBV := Hd hb; have hxj := (HX0.o wv hb).2; obtain ⟨m0, m1, m2⟩ := hxj.c3; clear hi hb hxj
   cases b
   ·go_wp2_with fail
    go_meet
    exact ⟨true, rfl, rfl, rfl, fun _ h => (Bool.noConfusion (HI1.o.2 (h.1 rfl)) : False), fun e => (by cases e), HBV.o⟩
   ·cases h2
    ·go_wp2_with fail
     refine (TR.o tx cx_ htx HKX.o _).mono ?_; rintro e wz ⟨b, rfl, hi, hb⟩; have HIX := Hd hi; have HBZ : Hid (Up W0 wz) := HBV.o.trans (hb.mono HBV.o.size); clear hi hb
     cases b
     ·go_wp2_with fail
      go_meet
      exact ⟨true, rfl, rfl, rfl, fun _ h => (Bool.noConfusion (HIX.o.2 h.2.2) : False), fun e => (by cases e), HBZ.o⟩
     ·go_wp2_with fail
      go_meet
      exact ⟨false, rfl, rfl, rfl, fun e => (by cases e), fun _ => ⟨fun _ => HI1.o.1 (by first | rfl | trivial), fun e => (by cases e), HIX.o.1 (by first | rfl | trivial)⟩, HBZ.o⟩
    ·go_wp2_with fail
     refine (TR.o t2 c2_ ht2 HK2.o _).mono ?_; rintro e wy ⟨b, rfl, hi, hb⟩; have HI2 := Hd hi; have HBY : Hid (Up W0 wy) := HBV.o.trans (hb.mono HBV.o.size); clear hi hb
     cases b
     ·go_wp2_with fail
      go_meet
      exact ⟨true, rfl, rfl, rfl, fun _ h => (Bool.noConfusion (HI2.o.2 (h.2.1 rfl)) : False), fun e => (by cases e), HBY.o⟩
     ·go_wp2_with fail
      refine (TR.o tx cx_ htx HKX.o _).mono ?_; rintro e wz ⟨b, rfl, hi, hb⟩; have HIX := Hd hi; have HBZ : Hid (Up W0 wz) := HBY.o.trans (hb.mono HBY.o.size); clear hi hb
      cases b
      ·go_wp2_with fail
       go_meet
       exact ⟨true, rfl, rfl, rfl, fun _ h => (Bool.noConfusion (HIX.o.2 h.2.2) : False), fun e => (by cases e), HBZ.o⟩
      ·go_wp2_with fail
       go_meet
       exact ⟨false, rfl, rfl, rfl, fun e => (by cases e), fun _ => ⟨fun _ => HI1.o.1 (by first | rfl | trivial), fun _ => HI2.o.1 (by first | rfl | trivial), HIX.o.1 (by first | rfl | trivial)⟩, HBZ.o⟩
 case rest =>
  obtain ⟨bad, rfl, rfl, rfl, hbad, hgood, hbc⟩ := hcut; obtain ⟨wa, rfl⟩ : ∃ wa, wa = wc := ⟨_, rfl⟩; have HA1 := Hd hbc; have HE1 : Hid (Up w wa) := HB0.o.trans (hbc.mono HB0.o.size); have HBAD := Hd hbad; have HGOOD := Hd hgood; clear hbc hbad hgood k0 k1 k2 j0 j1 j2
  cases bad
  ·obtain ⟨ok1, ok2, x, y, hx⟩ := HGOOD.o (by first | rfl | trivial); have HOK : Hid (OkE h1 t1 c1_ ∧ OkE h2 t2 c2_) := ⟨ok1, ok2⟩; have HX := Hd hx; clear ok1 ok2 hx; have hxk := (HX0.o wa HA1.o).1; obtain ⟨k0, k1, k2⟩ := hxk.c3; clear hxk
   cases hh1 : h1
   ·subst hh1; have HLOW : Hid (∀ a b, false = true → RatV t1 c1_ a b → inL o1 a b x y) := fun a b e => (by cases e); have hxj := (HX0.o wa HA1.o).2; obtain ⟨j0, j1, j2⟩ := hxj.c3; clear hxj
    cases hh2 : h2
    ·have HB2 : Hid (Btw false o1 t1 false o2 t2 tx c1_ c2_ cx_) := ⟨HOK.o.1, fun e => (by cases e), x, y, HX.o, fun a b e => HLOW.o a b (by first | exact e | rfl | trivial), fun c d e => (by cases e)⟩; subst hh2
     go_wp2
     go_ret
     exact ⟨true, rfl, ⟨fun _ => HB2.o, fun _ => rfl⟩, HE1.o⟩
    ·subst hh2; obtain ⟨c, d, hcd⟩ := HOK.o.2 rfl; have HCD := Hd hcd; clear hcd
     go_wp2_with fail
     refine (specRatCmp_any tx t2 _ htx ht2).mono ?_; rintro e wr ⟨r2, rfl, hres, hb⟩; have hr2 := cmp_of hres HKX.o HK2.o HX.o HCD.o; have HER : Hid (Up w wr) := HE1.o.trans (hb.mono HE1.o.size); have hxj := (HX0.o wr (HA1.o.trans (hb.mono HA1.o.size))).2; have HO : Hid (inH o2 c d x y ↔ (decide (0 < ordI (x * d) (c * y)) || (decide (ordI (x * d) (c * y) = 0) && o2)) = false) := inH_ord o2 c d x y; rw [← hr2] at HO; have h3 := ordI_three (x * d) (c * y); rw [← hr2] at h3; clear hres hb hr2 j0 j1 j2; obtain ⟨j0, j1, j2⟩ := hxj.c3; clear hxj; have HFIN : Hid (∀ b : Bool, b = !(decide (0 < r2) || (decide (r2 = 0) && o2)) → (b = true ↔ Btw false o1 t1 true o2 t2 tx c1_ c2_ cx_)) := fun b hb => by
      have hiff : b = true ↔ inH o2 c d x y := by
       rw [HO.o, hb]
       cases (decide (0 < r2) || (decide (r2 = 0) && o2)) <;> simp
      rw [hiff]; constructor
      ·intro hin; refine ⟨HOK.o.1, HOK.o.2, x, y, HX.o, fun a b e => HLOW.o a b (by first | exact e | rfl | trivial), fun c' d' _ hv => ?_⟩; obtain ⟨rfl, rfl⟩ := ratV_one hv HCD.o; exact hin
      ·rintro ⟨_, _, x', y', hv, _, hin⟩; obtain ⟨rfl, rfl⟩ := ratV_one hv HX.o; exact hin c d rfl HCD.o
     rcases h3 with rfl | rfl | rfl
     ·go_wp2
      go_ret
      exact ⟨true, rfl, HFIN.o true rfl, HER.o⟩
     ·cases o2
      ·go_wp2
       go_ret
       exact ⟨true, rfl, HFIN.o true rfl, HER.o⟩
      ·go_wp2
       go_ret
       exact ⟨false, rfl, HFIN.o false rfl, HER.o⟩
     ·go_wp2
      go_ret
      exact ⟨false, rfl, HFIN.o false rfl, HER.o⟩
   ·subst hh1; obtain ⟨a, b, hab⟩ := HOK.o.1 rfl; have HAB := Hd hab; clear hab
    go_wp2_with fail
    refine (specRatCmp_any tx t1 _ htx ht1).mono ?_; rintro e wp ⟨r1, rfl, hres, hb⟩; have hr1 := cmp_of hres HKX.o HK1.o HX.o HAB.o; have HAP : Hid (Up W0 wp) := HA1.o.trans (hb.mono HA1.o.size); have HEP : Hid (Up w wp) := HE1.o.trans (hb.mono HE1.o.size); have hxk := (HX0.o wp HAP.o).1; have HOL : Hid (inL o1 a b x y ↔ (decide (ordI (x * b) (a * y) < 0) || (decide (ordI (x * b) (a * y) = 0) && o1)) = false) := inL_ord o1 a b x y; rw [← hr1] at HOL; have h3 := ordI_three (x * b) (a * y); rw [← hr1] at h3; clear hres hb hr1 k0 k1 k2; obtain ⟨k0, k1, k2⟩ := hxk.c3; clear hxk; have HNO : Hid ((decide (r1 < 0) || (decide (r1 = 0) && o1)) = true → ¬ Btw true o1 t1 h2 o2 t2 tx c1_ c2_ cx_) := fun hf => by
     rintro ⟨_, _, x', y', hv, hin, _⟩; obtain ⟨rfl, rfl⟩ := ratV_one hv HX.o; have := HOL.o.1 (hin a b rfl HAB.o); rw [hf] at this
     cases this
    have HYES : Hid ((decide (r1 < 0) || (decide (r1 = 0) && o1)) = false → ∀ a' b', true = true → RatV t1 c1_ a' b' → inL o1 a' b' x y) := fun hf a' b' _ hv => by
     obtain ⟨rfl, rfl⟩ := ratV_one hv HAB.o; exact HOL.o.2 hf
    rcases h3 with rfl | rfl | rfl
    ·go_wp2
     go_ret
     exact ⟨false, rfl, ⟨fun e => (by cases e), fun e => absurd e (HNO.o rfl)⟩, HEP.o⟩
    ·cases o1
     ·have HLOW := Hd (HYES.o rfl); clear HYES HNO; have hxj := (HX0.o wp HAP.o).2; obtain ⟨j0, j1, j2⟩ := hxj.c3; clear hxj
      cases hh2 : h2
      ·have HB2 : Hid (Btw true false t1 false o2 t2 tx c1_ c2_ cx_) := ⟨HOK.o.1, fun e => (by cases e), x, y, HX.o, fun a b e => HLOW.o a b (by first | exact e | rfl | trivial), fun c d e => (by cases e)⟩; subst hh2
       go_wp2
       go_ret
       exact ⟨true, rfl, ⟨fun _ => HB2.o, fun _ => rfl⟩, HEP.o⟩
      ·subst hh2; obtain ⟨c, d, hcd⟩ := HOK.o.2 rfl; have HCD := Hd hcd; clear hcd
       go_wp2_with fail
       refine (specRatCmp_any tx t2 _ htx ht2).mono ?_; rintro e wr ⟨r2, rfl, hres, hb⟩; have hr2 := cmp_of hres HKX.o HK2.o HX.o HCD.o; have HER : Hid (Up w wr) := HEP.o.trans (hb.mono HEP.o.size); have hxj := (HX0.o wr (HAP.o.trans (hb.mono HAP.o.size))).2; have HO : Hid (inH o2 c d x y ↔ (decide (0 < ordI (x * d) (c * y)) || (decide (ordI (x * d) (c * y) = 0) && o2)) = false) := inH_ord o2 c d x y; rw [← hr2] at HO; have h3 := ordI_three (x * d) (c * y); rw [← hr2] at h3; clear hres hb hr2 j0 j1 j2; obtain ⟨j0, j1, j2⟩ := hxj.c3; clear hxj; have HFIN : Hid (∀ b : Bool, b = !(decide (0 < r2) || (decide (r2 = 0) && o2)) → (b = true ↔ Btw true false t1 true o2 t2 tx c1_ c2_ cx_)) := fun b hb => by
        have hiff : b = true ↔ inH o2 c d x y := by
         rw [HO.o, hb]
         cases (decide (0 < r2) || (decide (r2 = 0) && o2)) <;> simp
        rw [hiff]; constructor
        ·intro hin; refine ⟨HOK.o.1, HOK.o.2, x, y, HX.o, fun a b e => HLOW.o a b (by first | exact e | rfl | trivial), fun c' d' _ hv => ?_⟩; obtain ⟨rfl, rfl⟩ := ratV_one hv HCD.o; exact hin
        ·rintro ⟨_, _, x', y', hv, _, hin⟩; obtain ⟨rfl, rfl⟩ := ratV_one hv HX.o; exact hin c d rfl HCD.o
       rcases h3 with rfl | rfl | rfl
       ·go_wp2
        go_ret
        exact ⟨true, rfl, HFIN.o true rfl, HER.o⟩
       ·cases o2
        ·go_wp2
         go_ret
         exact ⟨true, rfl, HFIN.o true rfl, HER.o⟩
        ·go_wp2
         go_ret
         exact ⟨false, rfl, HFIN.o false rfl, HER.o⟩
       ·go_wp2
        go_ret
        exact ⟨false, rfl, HFIN.o false rfl, HER.o⟩
     ·go_wp2
      go_ret
      exact ⟨false, rfl, ⟨fun e => (by cases e), fun e => absurd e (HNO.o rfl)⟩, HEP.o⟩
    ·have HLOW := Hd (HYES.o rfl); clear HYES HNO; have hxj := (HX0.o wp HAP.o).2; obtain ⟨j0, j1, j2⟩ := hxj.c3; clear hxj
     cases hh2 : h2
     ·have HB2 : Hid (Btw true o1 t1 false o2 t2 tx c1_ c2_ cx_) := ⟨HOK.o.1, fun e => (by cases e), x, y, HX.o, fun a b e => HLOW.o a b (by first | exact e | rfl | trivial), fun c d e => (by cases e)⟩; subst hh2
      go_wp2
      go_ret
      exact ⟨true, rfl, ⟨fun _ => HB2.o, fun _ => rfl⟩, HEP.o⟩
     ·subst hh2; obtain ⟨c, d, hcd⟩ := HOK.o.2 rfl; have HCD := Hd hcd; clear hcd
      go_wp2_with fail
      refine (specRatCmp_any tx t2 _ htx ht2).mono ?_; rintro e wr ⟨r2, rfl, hres, hb⟩; have hr2 := cmp_of hres HKX.o HK2.o HX.o HCD.o; have HER : Hid (Up w wr) := HEP.o.trans (hb.mono HEP.o.size); have hxj := (HX0.o wr (HAP.o.trans (hb.mono HAP.o.size))).2; have HO : Hid (inH o2 c d x y ↔ (decide (0 < ordI (x * d) (c * y)) || (decide (ordI (x * d) (c * y) = 0) && o2)) = false) := inH_ord o2 c d x y; rw [← hr2] at HO; have h3 := ordI_three (x * d) (c * y); rw [← hr2] at h3; clear hres hb hr2 j0 j1 j2; obtain ⟨j0, j1, j2⟩ := hxj.c3; clear hxj; have HFIN : Hid (∀ b : Bool, b = !(decide (0 < r2) || (decide (r2 = 0) && o2)) → (b = true ↔ Btw true o1 t1 true o2 t2 tx c1_ c2_ cx_)) := fun b hb => by
       have hiff : b = true ↔ inH o2 c d x y := by
        rw [HO.o, hb]
        cases (decide (0 < r2) || (decide (r2 = 0) && o2)) <;> simp
       rw [hiff]; constructor
       ·intro hin; refine ⟨HOK.o.1, HOK.o.2, x, y, HX.o, fun a b e => HLOW.o a b (by first | exact e | rfl | trivial), fun c' d' _ hv => ?_⟩; obtain ⟨rfl, rfl⟩ := ratV_one hv HCD.o; exact hin
       ·rintro ⟨_, _, x', y', hv, _, hin⟩; obtain ⟨rfl, rfl⟩ := ratV_one hv HX.o; exact hin c d rfl HCD.o
      rcases h3 with rfl | rfl | rfl
      ·go_wp2
       go_ret
       exact ⟨true, rfl, HFIN.o true rfl, HER.o⟩
      ·cases o2
       ·go_wp2
        go_ret
        exact ⟨true, rfl, HFIN.o true rfl, HER.o⟩
       ·go_wp2
        go_ret
        exact ⟨false, rfl, HFIN.o false rfl, HER.o⟩
      ·go_wp2
       go_ret
       exact ⟨false, rfl, HFIN.o false rfl, HER.o⟩
  ·have HN : Hid (¬ Btw h1 o1 t1 h2 o2 t2 tx c1_ c2_ cx_) := fun hb => HBAD.o (by first | rfl | trivial) ⟨hb.1, hb.2.1, by obtain ⟨_, _, x, y, hv, _⟩ := hb; exact ⟨x, y, hv⟩⟩
   go_wp2
   go_ret
   exact ⟨false, rfl, ⟨fun e => (by cases e), fun e => absurd e HN.o⟩, HE1.o⟩
attribute [local go_sem ↓] ym_undef
def Less (x y p q : Int) : Prop := y < q ∨ y = q ∧ (x.natAbs < p.natAbs ∨ x.natAbs = p.natAbs ∧ 0 < x ∧ p < 0)
def SmpP (e : Ending) (w w' : World) (tx ts : ByteArray) (kx ks : Option Nat) : Prop := ∃ b : Bool, e = .returned (.bool b) ∧ (b = true → ∃ x y p q, RatV tx kx x y ∧ RatV ts ks p q ∧ Less x y p q) ∧ Up w w'
theorem ord_eq {x y r : Int} (h : ordI x y = r) : (r = -1 → x < y) ∧ (r = 0 → x = y) ∧ (r = 1 → y < x) := by
 unfold ordI at h
 split at h
 ·exact ⟨fun _ => by assumption, fun e => by omega, fun e => by omega⟩
 split at h
 ·exact ⟨fun e => by omega, fun e => by omega, fun _ => by assumption⟩
 exact ⟨fun e => by omega, fun _ => by omega, fun e => by omega⟩
theorem IsN.ofZ {B : Nat} {w : World} {z : Value} {x : Int} {n : Nat} (h : NumZ B w z x n) : IsN B w z x := by
 obtain ⟨neg, t, hz, hx, _⟩ := h; exact ⟨neg, t, hz, hx⟩
set_option maxRecDepth 100000 in
set_option maxHeartbeats 8000000 in
theorem simpler_any (tx ts : ByteArray) (kx_ ks_ : Option Nat) (w : World) (htx : tx.size ≤ maxLen) (hts : ts.size ≤ maxLen) (hkx : IsCut tx kx_) (hks : IsCut ts ks_) :
 Calls Tryz.prog 31 #[.string tx, .string ts] w fun e w' => SmpP e w w' tx ts kx_ ks_ := by
 have HKX := Hd hkx; have HKS := Hd hks; clear hkx hks; have TR : Hid (∀ (t : ByteArray) (k : Option Nat) (ht : t.size ≤ maxLen) (hk : IsCut t k) W, Calls Tryz.prog 57 #[.string t] W (fun e w' => ∃ b, e = .returned (.bool b) ∧ (b = true ↔ ∃ x y, RatV t k x y) ∧ Up W w')) := fun t k ht hk W => by
  refine (specIsRat_any t W ht).mono ?_; rintro e w' ⟨b, rfl, ⟨k', hk', hi⟩, hb⟩; obtain rfl := isCut_unique hk' hk; exact ⟨b, rfl, hi, hb⟩
 go_enter Tryz.func31, Tryz.ntmps31
 go_wp2_with fail
 refine (TR.o tx kx_ htx HKX.o _).mono ?_; rintro e wa ⟨b, rfl, hi, hb⟩; have HIX := Hd hi; have HEA := Hd hb; clear hi hb
 cases b
 ·go_wp2
  go_ret
  exact ⟨false, rfl, fun e => (by cases e), HEA.o⟩
 go_wp2_with fail
 refine (TR.o ts ks_ hts HKS.o _).mono ?_; rintro e wb ⟨b, rfl, hi, hb⟩; have HIS := Hd hi; have HEB : Hid (Up w wb) := HEA.o.trans (hb.mono HEA.o.size); clear hi hb
 cases b
 ·go_wp2
  go_ret
  exact ⟨false, rfl, fun e => (by cases e), HEB.o⟩
 obtain ⟨x, y, hxy⟩ := HIX.o.1 (by first | rfl | trivial); obtain ⟨p, q, hpq⟩ := HIS.o.1 (by first | rfl | trivial); have HXY := Hd hxy; have HPQ := Hd hpq; clear hxy hpq HIX HIS
 go_wp2_with fail
 refine (l2Read_any tx kx_ x y _ htx HKX.o HXY.o).mono ?_; rintro e w1 ⟨z, rfl, hz, hb⟩; have hz := qn_zero hz; obtain ⟨a1, n1, d1, l1, c1, a2, n2, d2, l2, c2, rfl, y1z, y2z⟩ := hz; have H1 := Hd y1z; have H2 := Hd y2z; have HE1 : Hid (Up w w1) := HEB.o.trans (hb.mono HEB.o.size); clear y1z y2z hb; obtain ⟨W1, hW1⟩ := exW (w1.alloc (.cells #[.int .i64 a1, .bool n1, .slice d1 l1 c1, .int .i64 a2, .bool n2, .slice d2 l2 c2] 70)); have HW1 := Hd hW1; have HB1 : Hid (Up w1 W1) := by unfold Hid; rw [← hW1]; exact below_alloc _ _
 have HS1 : Hid (W1.heap.size = w1.heap.size + 1) := by show W1.heap.size = _; rw [← hW1]; simp
 have hx1_0 : Bx W1 (w1.heap.size) [.int .i64 a1, .bool n1, .slice d1 l1 c1, .int .i64 a2, .bool n2, .slice d2 l2 c2] := by
  rw [← hW1]; exact bx_new w1 _ _
 have HX1 : Hid (∀ W, Up W1 W → Bx W (w1.heap.size) [.int .i64 a1, .bool n1, .slice d1 l1 c1, .int .i64 a2, .bool n2, .slice d2 l2 c2]) := fun W hW => hx1_0.below hx1_0.lt hW; clear hW1 hx1_0
 go_upto_region 4 with fail
 rw [HW1.o]
 go_wp2_with fail
 refine (l2Read_any ts ks_ p q _ hts HKS.o HPQ.o).mono ?_; rintro e w2 ⟨z, rfl, hz, hb⟩; have hz := qn_zero hz; obtain ⟨a3, n3, d3, l3, c3, a4, n4, d4, l4, c4, rfl, y1z, y2z⟩ := hz; have H3 := Hd y1z; have H4 := Hd y2z; have HC2 := Hd hb; clear y1z y2z hb; obtain ⟨W2, hW2⟩ := exW (w2.alloc (.cells #[.int .i64 a3, .bool n3, .slice d3 l3 c3, .int .i64 a4, .bool n4, .slice d4 l4 c4] 70)); have HW2 := Hd hW2; have HB2 : Hid (Up w2 W2) := by unfold Hid; rw [← hW2]; exact below_alloc _ _
 have HS2 : Hid (W2.heap.size = w2.heap.size + 1) := by show W2.heap.size = _; rw [← hW2]; simp
 have hx2_0 : Bx W2 (w2.heap.size) [.int .i64 a3, .bool n3, .slice d3 l3 c3, .int .i64 a4, .bool n4, .slice d4 l4 c4] := by
  rw [← hW2]; exact bx_new w2 _ _
 have HX2 : Hid (∀ W, Up W2 W → Bx W (w2.heap.size) [.int .i64 a3, .bool n3, .slice d3 l3 c3, .int .i64 a4, .bool n4, .slice d4 l4 c4]) := fun W hW => hx2_0.below hx2_0.lt hW; clear hW2; have HA12 : Hid (Up W1 W2) := HC2.o.trans (HB2.o.mono HC2.o.size); have HF1 : Hid (Up w1 W2) := HB1.o.trans (HA12.o.mono HB1.o.size); have HE2 : Hid (Up w W2) := HE1.o.trans (HF1.o.mono HE1.o.size); have hxa := HX1.o W2 HA12.o; obtain ⟨k0, k1, k2, k3, k4, k5⟩ := hxa.c6; obtain ⟨j0, j1, j2, j3, j4, j5⟩ := hx2_0.c6; clear hxa hx2_0
 go_upto_region 5 with fail
 rw [HW2.o]
 go_wp2_with fail
 refine (l1CmpN_any 0 _ _ y q W2 (Nat.zero_le _) (IsN.ofZ (H2.o.below HF1.o)) (IsN.ofZ (H4.o.below HB2.o))).mono ?_; rintro e w3 ⟨rfl, hb⟩; have HC3 := Hd hb; have HE3 : Hid (Up w w3) := HE2.o.trans (hb.mono HE2.o.size); have h3 := ordI_three y q; obtain ⟨r, hr⟩ := exW (ordI y q); have HR := Hd (ord_eq hr); rw [hr] at h3 ⊢; clear hb hr k0 j0 k1 j1 k2 j2 k3 j3 k4 j4 k5 j5
 rcases h3 with rfl | rfl | rfl
 ·go_wp2
  go_ret
  exact ⟨true, rfl, fun _ => ⟨x, y, p, q, HXY.o, HPQ.o, .inl (HR.o.1 (by first | rfl | trivial))⟩, HE3.o⟩
 ·have HG1 : Hid (Up w1 w3) := HF1.o.trans (HC3.o.mono HF1.o.size); have HG2 : Hid (Up w2 w3) := HB2.o.trans (HC3.o.mono HB2.o.size); have hxa := HX1.o w3 (HA12.o.trans (HC3.o.mono HA12.o.size)); obtain ⟨k0, k1, k2, k3, k4, k5⟩ := hxa.c6; clear hxa; obtain ⟨W3, hW3⟩ := exW (w3.alloc (.cells #[.int .i64 a1, .bool n1, .slice d1 l1 c1] 54)); have HW3 := Hd hW3; have HB3 : Hid (Up w3 W3) := by unfold Hid; rw [← hW3]; exact below_alloc _ _
  have HS3 : Hid (W3.heap.size = w3.heap.size + 1) := by show W3.heap.size = _; rw [← hW3]; simp
  have hx3_0 : Bx W3 (w3.heap.size) [.int .i64 a1, .bool n1, .slice d1 l1 c1] := by
   rw [← hW3]; exact bx_new w3 _ _
  have HX3 : Hid (∀ W, Up W3 W → Bx W (w3.heap.size) [.int .i64 a1, .bool n1, .slice d1 l1 c1]) := fun W hW => hx3_0.below hx3_0.lt hW; have HX8 := Hd hx3_0; clear hW3 hx3_0; have HE4 : Hid (Up w W3) := HE3.o.trans (HB3.o.mono HE3.o.size); have HV8 : Hid (NumZ 0 W3 (.agg #[.int .i64 a1, .bool n1, .slice d1 l1 c1]) (x) 1000) := (H1.o.below HG1.o).below HB3.o
  go_upto_region 9 with fail
  rw [HW3.o]; have hx8 := HX8.o; obtain ⟨g0, g1, g2⟩ := hx8.c3; clear hx8 k0 k1 k2 k3 k4 k5
  go_wp2_with fail
  refine (l1Sign_any 0 _ x 1000 W3 (Nat.zero_le _) HV8.o).mono ?_; rintro e w4 ⟨rfl, hb⟩; have h3 := ordI_three x 0; obtain ⟨r1, hr1⟩ := exW (ordI x 0); have HR1 := Hd (ord_eq hr1); have HRR1 := Hd hr1; rw [hr1] at h3 ⊢; have HX84 := Hd (HX8.o.below HX8.o.lt hb); have HV84 := Hd (HV8.o.below hb); have HI4 : Hid (Up w3 w4) := HB3.o.trans (hb.mono HB3.o.size); have hz4 : w3.heap.size < w4.heap.size := HX84.o.lt; clear hr1 hb g0 g1 g2
  go_upto_if 36 with fail
  go_cut [] (fun wx => ∃ (a5 : Int) (n5 : Bool) (d5 : Option Addr) (l5 c5 : Nat), Bx wx w3.heap.size [.int .i64 a5, .bool n5, .slice d5 l5 c5] ∧ NumZ 0 wx (.agg #[.int .i64 a5, .bool n5, .slice d5 l5 c5]) ((x.natAbs : Int)) 1000 ∧ Up w3 wx)
  case first =>
   rcases h3 with rfl | rfl | rfl
   ·have hx8 := HX84.o; obtain ⟨g0, g1, g2⟩ := hx8.c3; obtain ⟨gf0, gf1, gf2⟩ := hx8.f3; clear hx8
    go_wp2_with fail
    refine (l1MinusN_any _ x 1000 w4 HV84.o).mono ?_; rintro e w5 ⟨z, rfl, hz, hb⟩; obtain ⟨a5, n5, d5, l5, c5, rfl⟩ := hz.shape'; have HZ := Hd hz; have HI5 : Hid (Up w3 w5) := HI4.o.trans (hb.mono HI4.o.size); have HX85 := Hd (HX84.o.below HX84.o.lt hb); have hx8 := HX85.o; clear hz hb g0 g1 g2 gf0 gf1 gf2; obtain ⟨g0, g1, g2⟩ := hx8.c3; obtain ⟨gf0, gf1, gf2⟩ := hx8.f3; clear hx8
    go_wp2_with fail
    go_meet
    have hxa := HX85.o; have hnR : NoInt w5 w3.heap.size := noInt_of hxa (by simp); have hneg : (x.natAbs : Int) = -x := by have := HR1.o.1 (by first | rfl | trivial); omega
    exact ⟨_, _, _, _, _, (((hxa.set 0 (.int .i64 a5)).set 1 (.bool n5)).set 2 (.slice d5 l5 c5)), by rw [hneg]; exact HZ.o.keeps hnR hnR (keepsC3 w5 w3.heap.size (.int .i64 a5) (.bool n5) (.slice d5 l5 c5)), (((HI5.o.setCell (p := ⟨w3.heap.size, 0, none⟩) leR (.int .i64 a5)).setCell (p := ⟨w3.heap.size, 1, none⟩) leR (.bool n5)).setCell (p := ⟨w3.heap.size, 2, none⟩) leR (.slice d5 l5 c5))⟩
   ·go_wp2_with fail
    go_meet
    have hpos : (x.natAbs : Int) = x := by have := HR1.o.2.1 (by first | rfl | trivial); omega
    exact ⟨_, _, _, _, _, HX84.o, by rw [hpos]; exact HV84.o, HI4.o⟩
   ·go_wp2_with fail
    go_meet
    have hpos : (x.natAbs : Int) = x := by have := HR1.o.2.2 (by first | rfl | trivial); omega
    exact ⟨_, _, _, _, _, HX84.o, by rw [hpos]; exact HV84.o, HI4.o⟩
  case rest =>
   obtain ⟨a5, n5, d5, l5, c5, hbx, hnz, hbc⟩ := hcut; obtain ⟨w6, rfl⟩ : ∃ w6, w6 = wc := ⟨_, rfl⟩; have HX86 := Hd hbx; have HV86 := Hd hnz; have HI6 := Hd hbc; have HE6 : Hid (Up w w6) := HE3.o.trans (hbc.mono HE3.o.size); have HG6 : Hid (Up w2 w6) := HG2.o.trans (hbc.mono HG2.o.size); have HJ6 : Hid (Up W2 w6) := HC3.o.trans (hbc.mono HC3.o.size); clear hbx hnz hbc; have hxa := HX2.o w6 HJ6.o; obtain ⟨k0, k1, k2, k3, k4, k5⟩ := hxa.c6; clear hxa; obtain ⟨W6, hW6⟩ := exW (w6.alloc (.cells #[.int .i64 a3, .bool n3, .slice d3 l3 c3] 54)); have HW6 := Hd hW6; have HB6 : Hid (Up w6 W6) := by unfold Hid; rw [← hW6]; exact below_alloc _ _
   have HS6 : Hid (W6.heap.size = w6.heap.size + 1) := by show W6.heap.size = _; rw [← hW6]; simp
   have hx6_0 : Bx W6 (w6.heap.size) [.int .i64 a3, .bool n3, .slice d3 l3 c3] := by
    rw [← hW6]; exact bx_new w6 _ _
   have HX6 : Hid (∀ W, Up W6 W → Bx W (w6.heap.size) [.int .i64 a3, .bool n3, .slice d3 l3 c3]) := fun W hW => hx6_0.below hx6_0.lt hW; have HX9 := Hd hx6_0; clear hW6 hx6_0; have HV9 : Hid (NumZ 0 W6 (.agg #[.int .i64 a3, .bool n3, .slice d3 l3 c3]) (p) 1000) := (H3.o.below HG6.o).below HB6.o; have HX86' := Hd (HX86.o.below HX86.o.lt HB6.o); have HV86' := Hd (HV86.o.below HB6.o)
   go_upto_region 12 with fail
   rw [HW6.o]; have hx9 := HX9.o; obtain ⟨g0, g1, g2⟩ := hx9.c3; clear hx9 k0 k1 k2 k3 k4 k5
   go_wp2_with fail
   refine (l1Sign_any 0 _ p 1000 W6 (Nat.zero_le _) HV9.o).mono ?_; rintro e w7 ⟨rfl, hb⟩; have h4 := ordI_three p 0; obtain ⟨r2, hr2⟩ := exW (ordI p 0); have HR2 := Hd (ord_eq hr2); have HRR2 := Hd hr2; rw [hr2] at h4 ⊢; have HX97 := Hd (HX9.o.below HX9.o.lt hb); have HV97 := Hd (HV9.o.below hb); have HI7 : Hid (Up w6 w7) := HB6.o.trans (hb.mono HB6.o.size); clear hr2 hb g0 g1 g2
   go_upto_if 43 with fail
   go_cut [] (fun wx => ∃ (a6 : Int) (n6 : Bool) (d6 : Option Addr) (l6 c6 : Nat), Bx wx w6.heap.size [.int .i64 a6, .bool n6, .slice d6 l6 c6] ∧ NumZ 0 wx (.agg #[.int .i64 a6, .bool n6, .slice d6 l6 c6]) ((p.natAbs : Int)) 1000 ∧ Up w6 wx)
   case first =>
    rcases h4 with rfl | rfl | rfl
    ·have hx9 := HX97.o; obtain ⟨g0, g1, g2⟩ := hx9.c3; obtain ⟨gf0, gf1, gf2⟩ := hx9.f3; clear hx9
     go_wp2_with fail
     refine (l1MinusN_any _ p 1000 w7 HV97.o).mono ?_; rintro e w8 ⟨z, rfl, hz, hb⟩; obtain ⟨a6, n6, d6, l6, c6, rfl⟩ := hz.shape'; have HZ := Hd hz; have HI8 : Hid (Up w6 w8) := HI7.o.trans (hb.mono HI7.o.size); have HX98 := Hd (HX97.o.below HX97.o.lt hb); have hx9 := HX98.o; clear hz hb g0 g1 g2 gf0 gf1 gf2; obtain ⟨g0, g1, g2⟩ := hx9.c3; obtain ⟨gf0, gf1, gf2⟩ := hx9.f3; clear hx9
     go_wp2_with fail
     go_meet
     have hxa := HX98.o; have hnR : NoInt w8 w6.heap.size := noInt_of hxa (by simp); have hneg : (p.natAbs : Int) = -p := by have := HR2.o.1 (by first | rfl | trivial); omega
     exact ⟨_, _, _, _, _, (((hxa.set 0 (.int .i64 a6)).set 1 (.bool n6)).set 2 (.slice d6 l6 c6)), by rw [hneg]; exact HZ.o.keeps hnR hnR (keepsC3 w8 w6.heap.size (.int .i64 a6) (.bool n6) (.slice d6 l6 c6)), (((HI8.o.setCell (p := ⟨w6.heap.size, 0, none⟩) leR (.int .i64 a6)).setCell (p := ⟨w6.heap.size, 1, none⟩) leR (.bool n6)).setCell (p := ⟨w6.heap.size, 2, none⟩) leR (.slice d6 l6 c6))⟩
    ·go_wp2_with fail
     go_meet
     have hpos : (p.natAbs : Int) = p := by have := HR2.o.2.1 (by first | rfl | trivial); omega
     exact ⟨_, _, _, _, _, HX97.o, by rw [hpos]; exact HV97.o, HI7.o⟩
    ·go_wp2_with fail
     go_meet
     have hpos : (p.natAbs : Int) = p := by have := HR2.o.2.2 (by first | rfl | trivial); omega
     exact ⟨_, _, _, _, _, HX97.o, by rw [hpos]; exact HV97.o, HI7.o⟩
   case rest =>
    obtain ⟨a6, n6, d6, l6, c6, hbx, hnz, hbc⟩ := hcut; obtain ⟨w9, rfl⟩ : ∃ w9, w9 = wc := ⟨_, rfl⟩; have HX99 := Hd hbx; have HV99 := Hd hnz; have HE9 : Hid (Up w w9) := HE6.o.trans (hbc.mono HE6.o.size); have HX89 := Hd (HX86.o.below HX86.o.lt hbc); have HV89 := Hd (HV86.o.below hbc); have HXQ := Hd (HX2.o w9 (HJ6.o.trans (hbc.mono HJ6.o.size))); have HXP := Hd (HX1.o w9 (HA12.o.trans ((HJ6.o.trans (hbc.mono HJ6.o.size)).mono HA12.o.size))); have HP9 : Hid (NumZ 0 w9 (.agg #[.int .i64 a3, .bool n3, .slice d3 l3 c3]) (p) 1000) := (H3.o.below HG6.o).below hbc; have HQ9 : Hid (NumZ 0 w9 (.agg #[.int .i64 a1, .bool n1, .slice d1 l1 c1]) (x) 1000) := ((H1.o.below HG1.o).below HI6.o).below hbc; have hx8 := HX89.o; clear hnz hbc; obtain ⟨g0, g1, g2⟩ := hx8.c3; obtain ⟨s0, s1, s2⟩ := hbx.c3; clear hx8 hbx
    go_wp2_with fail
    refine (l1CmpN_any 0 _ _ (x.natAbs : Int) (p.natAbs : Int) w9 (Nat.zero_le _) (IsN.ofZ HV89.o) (IsN.ofZ HV99.o)).mono ?_; rintro e wA ⟨rfl, hb⟩; have h5 := ordI_three (x.natAbs : Int) (p.natAbs : Int); obtain ⟨r3, hr3⟩ := exW (ordI (x.natAbs : Int) (p.natAbs : Int)); have HR3 := Hd (ord_eq hr3); rw [hr3] at h5 ⊢; have HEA' : Hid (Up w wA) := HE9.o.trans (hb.mono HE9.o.size); have HXPA := Hd (HXP.o.below HXP.o.lt hb); have HXQA := Hd (HXQ.o.below HXQ.o.lt hb); have HPA := Hd (HP9.o.below hb); have HQA := Hd (HQ9.o.below hb); clear hr3 hb g0 g1 g2 s0 s1 s2
    rcases h5 with rfl | rfl | rfl
    ·go_wp2
     go_ret
     exact ⟨true, rfl, fun _ => ⟨x, y, p, q, HXY.o, HPQ.o, .inr ⟨HR.o.2.1 (by first | rfl | trivial), .inl (by have := HR3.o.1 (by first | rfl | trivial); omega)⟩⟩, HEA'.o⟩
    ·have hxa := HXPA.o; obtain ⟨k0, k1, k2, k3, k4, k5⟩ := hxa.c6; clear hxa
     go_wp2_with fail
     refine (l1Sign_any 0 _ x 1000 wA (Nat.zero_le _) HQA.o).mono ?_; rintro e wB ⟨rfl, hb⟩; have HEB' : Hid (Up w wB) := HEA'.o.trans (hb.mono HEA'.o.size); have hxb := HXQA.o.below HXQA.o.lt hb; have HPB := Hd (HPA.o.below hb); rw [HRR1.o]; clear hb k0 k1 k2 k3 k4 k5; obtain ⟨k0, k1, k2, k3, k4, k5⟩ := hxb.c6; clear hxb
     rcases h3 with rfl | rfl | rfl
     ·go_wp2
      go_ret
      exact ⟨false, rfl, fun e => (by cases e), HEB'.o⟩
     ·go_wp2
      go_ret
      exact ⟨false, rfl, fun e => (by cases e), HEB'.o⟩
     ·go_wp2_with fail
      refine (l1Sign_any 0 _ p 1000 wB (Nat.zero_le _) HPB.o).mono ?_; rintro e wD ⟨rfl, hb⟩; have HED : Hid (Up w wD) := HEB'.o.trans (hb.mono HEB'.o.size); rw [HRR2.o]; clear hb
      rcases h4 with rfl | rfl | rfl
      ·go_wp2
       go_ret
       exact ⟨true, rfl, fun _ => ⟨x, y, p, q, HXY.o, HPQ.o, .inr ⟨HR.o.2.1 (by first | rfl | trivial), .inr ⟨by have := HR3.o.2.1 (by first | rfl | trivial); omega, HR1.o.2.2 (by first | rfl | trivial), HR2.o.1 (by first | rfl | trivial)⟩⟩⟩, HED.o⟩
      ·go_wp2
       go_ret
       exact ⟨false, rfl, fun e => (by cases e), HED.o⟩
      ·go_wp2
       go_ret
       exact ⟨false, rfl, fun e => (by cases e), HED.o⟩
    ·go_wp2
     go_ret
     exact ⟨false, rfl, fun e => (by cases e), HEA'.o⟩
 go_wp2
 go_ret
 exact ⟨false, rfl, fun e => (by cases e), HE3.o⟩
theorem Sim.gcd {lo : Bool} {a b : Int} {has ho : Bool} {c d p q : Int} (h : Sim lo a b has ho c d p q) : Int.gcd p q = 1 := by
 induction h using Sim.ind with
 | found lo a b has ho c d h => simp
 | step lo a b ho c d p q h hr ih =>
   have h1 : Int.gcd q p = 1 := by rw [Int.gcd_comm]; exact ih
   have h2 := gcd_part q p (-(a / b)) h1; have h3 : q - -(a / b) * p = a / b * p + q := by rw [Int.neg_mul]; omega
   rw [h3] at h2; rw [Int.gcd_comm]; exact h2
theorem inH_neg {o : Bool} {c d x y : Int} : inH o c d x y ↔ inL o (-c) d (-x) y := by
 unfold inH inL; rw [Int.neg_mul, Int.neg_mul]; constructor
 ·rintro (h | h)
  ·left; omega
  right; exact ⟨by omega, h.2⟩
 rintro (h | h)
 ·left; omega
 right; exact ⟨by omega, h.2⟩
theorem inL_neg {o : Bool} {a b x y : Int} : inL o a b x y ↔ inH o (-a) b (-x) y := by
 rw [inH_neg, Int.neg_neg, Int.neg_neg]
theorem lowOut_false {h1 o1 : Bool} {x1 : Int} (h : ¬ lowOut h1 o1 x1 = true) (e : h1 = true) : x1 < 0 ∨ x1 = 0 ∧ o1 = false := by
 subst e; unfold lowOut at h
 rcases Int.lt_trichotomy x1 0 with h2 | h2 | h2
 ·exact .inl h2
 ·refine .inr ⟨h2, ?_⟩
  cases o1 with
  | false => rfl
  | true => exact absurd (by simp [h2]) h
 exact absurd (by simp [h2]) h
theorem Best.opt {h1 o1 : Bool} {x1 y1 : Int} {h2 o2 : Bool} {x2 y2 p q : Int} (h : Best h1 o1 x1 y1 h2 o2 x2 y2 p q) (t : Two h1 o1 x1 y1 h2 o2 x2 y2) :
 0 < q ∧ Int.gcd p q = 1 ∧ (h1 = true → inL o1 x1 y1 p q) ∧ (h2 = true → inH o2 x2 y2 p q) ∧
 ∀ x y, 0 < y → (h1 = true → inL o1 x1 y1 x y) → (h2 = true → inH o2 x2 y2 x y) → q ≤ y ∧ p.natAbs ≤ x.natAbs ∧ ¬ (0 < x ∧ p < 0) := by
 unfold Best at h
 by_cases hl : lowOut h1 o1 x1 = true
 ·rw [if_pos hl] at h; obtain ⟨e1, hE⟩ := t.low hl; have hb := h.bound hE; obtain ⟨⟨iL, iH⟩, iO⟩ := h.opt hE; refine ⟨hb.2.1, h.gcd, fun _ => iL, iH, fun x y hy hL hH => ?_⟩; have k := iO x y hy (hL e1) hH; have hp := hb.1; exact ⟨k.1, by omega, by omega⟩
 rw [if_neg hl] at h
 by_cases hh : highOut h2 o2 x2 = true
 ·rw [if_pos hh] at h; obtain ⟨p', rfl, h⟩ := h; rw [high_low] at hh; obtain ⟨e2, hE⟩ := t.mirror.low hh; have hb := h.bound hE; obtain ⟨⟨iL, iH⟩, iO⟩ := h.opt hE; refine ⟨hb.2.1, by rw [Int.neg_gcd]; exact h.gcd, fun e => ?_, fun _ => ?_, fun x y hy hL hH => ?_⟩
  ·rw [inL_neg, Int.neg_neg]; exact iH e
  ·rw [inH_neg, Int.neg_neg]; exact iL
  have k := iO (-x) y hy (inH_neg.1 (hH e2)) (fun e => inL_neg.1 (hL e)); have hp := hb.1; refine ⟨k.1, by omega, by omega⟩
 rw [if_neg hh] at h; obtain ⟨rfl, rfl⟩ := h; refine ⟨by decide, by simp, fun e => ?_, fun e => ?_, fun x y hy _ _ => ⟨by omega, by simp, by omega⟩⟩
 ·have := lowOut_false hl e; unfold inL; rw [Int.mul_one, Int.zero_mul]; exact this
 rw [high_low] at hh; have := lowOut_false hh e; rw [inH_neg]; unfold inL; rw [Int.mul_one, Int.neg_zero, Int.zero_mul]; exact this
theorem none_of_between {h1 o1 : Bool} {x1 y1 : Int} {h2 o2 : Bool} {x2 y2 x y : Int} (l : h1 = true → 0 < y1) (r : h2 = true → 0 < y2) (hy : 0 < y) (hL : h1 = true → inL o1 x1 y1 x y) (hH : h2 = true → inH o2 x2 y2 x y) : NoneB h1 o1 x1 y1 h2 o2 x2 y2 = false := by
 unfold NoneB
 cases h1 with
 | false => rfl
 | true =>
   cases h2 with
   | false => rfl
   | true =>
     have hL' := hL rfl; have hH' := hH rfl; have b1 := l rfl; have b2 := r rfl; unfold inL at hL'; unfold inH at hH'
     -- x1 y y2 ≤ x y1 y2 ≤ x2 y y1
     have m1 : x1 * y * y2 ≤ x * y1 * y2 := Int.mul_le_mul_of_nonneg_right (by rcases hL' with h | h <;> omega) (Int.le_of_lt b2); have m2 : x * y2 * y1 ≤ x2 * y * y1 := Int.mul_le_mul_of_nonneg_right (by rcases hH' with h | h <;> omega) (Int.le_of_lt b1); have e0 : x * y1 * y2 = x * y2 * y1 := Int.mul_right_comm ..; have e1 : x1 * y * y2 = x1 * y2 * y := Int.mul_right_comm ..; have e2 : x2 * y * y1 = x2 * y1 * y := Int.mul_right_comm ..; have hle : x1 * y2 * y ≤ x2 * y1 * y := by omega
     have hle2 : x1 * y2 ≤ x2 * y1 := Int.le_of_mul_le_mul_right hle hy; have a1 : ¬ x2 * y1 < x1 * y2 := by omega
     by_cases hq : x1 * y2 = x2 * y1
     ·have hq2 : x1 * y2 * y = x2 * y1 * y := by rw [hq]
      have s1 : o1 = false := by
       rcases hL' with h | h
       ·have := Int.mul_lt_mul_of_pos_right h b2; omega
       ·exact h.2
      have s2 : o2 = false := by
       rcases hH' with h | h
       ·have := Int.mul_lt_mul_of_pos_right h b1; omega
       ·exact h.2
      subst s1 s2; simp [a1]
     ·simp [a1, hq]
theorem textR_has {p q x y : Int} {u tx : ByteArray} {kx : Option Nat} (hu : TextR p q u) (hV : RatV tx kx x y) (h0 : 0 < q) (hq : q ≤ y) (hp : p.natAbs ≤ x.natAbs) : u ≠ strB [] := by
 have key : ∃ v1 v2, IsText x v1 ∧ v1 ≠ strB [] ∧ IsText y v2 ∧ v2 ≠ strB [] := by
  cases kx with
  | none => exact ⟨tx, strB [49], by rw [hV.2.1]; exact text_back tx hV.1, text_ne tx hV.1, by rw [hV.2.2, ← num_one]; exact text_back _ int_one, text_ne _ int_one⟩
  | some i => exact ⟨_, _, by rw [hV.2.2.1]; exact text_back _ hV.1.1, text_ne _ hV.1.1, by rw [hV.2.2.2]; exact text_back _ hV.1.2, text_ne _ hV.1.2⟩
 obtain ⟨v1, v2, t1, n1, t2, n2⟩ := key; unfold TextR at hu
 split at hu
 ·exact text_le hu t1 n1 hp
 obtain ⟨a, b, ta, tb, rfl⟩ := hu; have na := size_ne.1 (text_le ta t1 n1 hp); have nb := size_ne.1 (text_le tb t2 n2 (by omega)); rw [if_neg (by omega), size_ne, ByteArray.size_append, ByteArray.size_append]; omega
theorem simplest_law {h1 o1 : Bool} {t1 : ByteArray} {h2 o2 : Bool} {t2 s : ByteArray} {k1 k2 : Option Nat} (hs : ResS h1 o1 t1 h2 o2 t2 s) (c1 : IsCut t1 k1) (c2 : IsCut t2 k2) :
 (∀ ks, IsCut s ks → s ≠ strB [] → Btw h1 o1 t1 h2 o2 t2 s k1 k2 ks) ∧
 ∀ tx kx, Btw h1 o1 t1 h2 o2 t2 tx k1 k2 kx → s ≠ strB [] ∧ ∀ ks x y p q, IsCut s ks → RatV tx kx x y → RatV s ks p q → ¬ Less x y p q := by
 obtain ⟨m1, m2, d1, d2, hs⟩ := hs; obtain rfl := isCut_unique d1 c1; obtain rfl := isCut_unique d2 c2; have flag : ∀ (h o : Bool), h = true → (h && o) = o := fun h o e => by rw [e]; rfl
 rcases hs with ⟨x1, y1, x2, y2, r1, r2, hs⟩ | ⟨hno, rfl⟩
 ·have l1 := r1.lt.2.2; have l2 := r2.lt.2.2; have ok1 : OkE h1 t1 m1 := fun e => ⟨x1, y1, by unfold RdE at r1; rw [if_pos e] at r1; exact r1⟩; have ok2 : OkE h2 t2 m2 := fun e => ⟨x2, y2, by unfold RdE at r2; rw [if_pos e] at r2; exact r2⟩; have v1 : ∀ a b, h1 = true → RatV t1 m1 a b → a = x1 ∧ b = y1 := fun a b e hv => by unfold RdE at r1; rw [if_pos e] at r1; exact ratV_one hv r1
  have v2 : ∀ a b, h2 = true → RatV t2 m2 a b → a = x2 ∧ b = y2 := fun a b e hv => by unfold RdE at r2; rw [if_pos e] at r2; exact ratV_one hv r2
  have w1 : h1 = true → RatV t1 m1 x1 y1 := fun e => by unfold RdE at r1; rw [if_pos e] at r1; exact r1
  have w2 : h2 = true → RatV t2 m2 x2 y2 := fun e => by unfold RdE at r2; rw [if_pos e] at r2; exact r2
  rcases hs with ⟨hn, p, q, hb, ht⟩ | ⟨hn, rfl⟩
  ·obtain ⟨q0, g, bL, bH, bO⟩ := hb.opt ⟨l1, l2, hn⟩; refine ⟨fun ks hks hne => ?_, fun tx kx hbt => ?_⟩
   ·obtain ⟨ks', hks', hV⟩ := text_ratV ht q0 g hne; obtain rfl := isCut_unique hks hks'; refine ⟨ok1, ok2, p, q, hV, fun a b e hv => ?_, fun a b e hv => ?_⟩
    ·obtain ⟨rfl, rfl⟩ := v1 a b e hv; rw [← flag h1 o1 e]; exact bL e
    obtain ⟨rfl, rfl⟩ := v2 a b e hv; rw [← flag h2 o2 e]; exact bH e
   obtain ⟨_, _, x, y, hV, hL, hH⟩ := hbt; have hy := (ratV_lt hV).2.2; have k := bO x y hy (fun e => by rw [flag h1 o1 e]; exact hL _ _ e (w1 e)) (fun e => by rw [flag h2 o2 e]; exact hH _ _ e (w2 e)); have hne := textR_has ht hV q0 k.1 k.2.1; refine ⟨hne, fun ks x' y' p' q' hks hV' hS hless => ?_⟩; obtain ⟨rfl, rfl⟩ := ratV_one hV' hV; obtain ⟨ks', hks', hS'⟩ := text_ratV ht q0 g hne; obtain rfl := isCut_unique hks hks'; obtain ⟨rfl, rfl⟩ := ratV_one hS hS'; unfold Less at hless; have k3 := k.2.2; omega
  refine ⟨fun _ _ h => absurd rfl h, fun tx kx hbt => ?_⟩
  exfalso
  obtain ⟨_, _, x, y, hV, hL, hH⟩ := hbt; have hy := (ratV_lt hV).2.2; have := none_of_between (o1 := h1 && o1) (o2 := h2 && o2) (fun e => (l1 e).1) (fun e => (l2 e).1) hy (fun e => by rw [flag h1 o1 e]; exact hL _ _ e (w1 e)) (fun e => by rw [flag h2 o2 e]; exact hH _ _ e (w2 e)); rw [hn] at this
  cases this
 refine ⟨fun _ _ h => absurd rfl h, fun tx kx hbt => ?_⟩
 exfalso
 obtain ⟨k1', k2', _⟩ := hbt; obtain ⟨_, _, a1, b1, _, _, r1, _⟩ := okE_ends k1'; obtain ⟨_, _, a2, b2, _, _, r2, _⟩ := okE_ends k2'; exact hno ⟨_, _, _, _, r1, r2⟩
def EndP (e : Ending) (g N k : Nat) (w w' : World) : Prop := ∃ (h o : Bool) (t : ByteArray) (k' : Nat), e = .returned (.agg #[.bool h, .bool o, .string t]) ∧ t.size ≤ 14000 ∧ k' ≤ k + 20000 ∧ IsCur g N w' k' ∧ Bar g w w'
set_option maxRecDepth 100000 in
set_option maxHeartbeats 4000000 in
theorem end_any (g N k : Nat) (w : World) (h : IsCur g N w k) (hk : k ≤ 1000000) :
 Calls Tryz.prog 63 #[.pointer (some ⟨g, 0, none⟩)] w fun e w' => EndP e g N k w w' := by
 have HC := Hd h; have HG : Hid (g < w.heap.size) := Nat.lt_of_lt_of_le h.1 h.2.1; have HN : Hid (N ≤ w.heap.size) := h.2.1; clear h; obtain ⟨W0, hW0⟩ := exW (w.alloc (.cells #[.bool false, .bool false, .string ⟨#[]⟩] 31)); have HW0 := Hd hW0; have HB0 : Hid (Up w W0) := by unfold Hid; rw [← hW0]; exact below_alloc _ _
 have HS0 : Hid (W0.heap.size = w.heap.size + 1) := by show W0.heap.size = _; rw [← hW0]; simp
 have hx0_0 : Bx W0 (w.heap.size) [.bool false, .bool false, .string ⟨#[]⟩] := by
  rw [← hW0]; exact bx_new w _ _
 have HX0 : Hid (∀ W, Up W0 W → Bx W (w.heap.size) [.bool false, .bool false, .string ⟨#[]⟩]) := fun W hW => hx0_0.below hx0_0.lt hW; have HXR : Hid (∀ W, Bar g W0 W → Bx W w.heap.size [.bool false, .bool false, .string ⟨#[]⟩]) := fun W hW => hx0_0.bar hW (by have := HG.o; omega); have HC0 := Hd (HC.o.below (HB0.o.mono HN.o)); have HBR0 : Hid (Bar g w W0) := Bar.of HB0.o; clear hW0 hx0_0
 go_enter Tryz.func63, Tryz.ntmps63
 go_upto_region 1 with fail
 rw [HW0.o]
 go_wp2_with fail
 refine (pick_any g N k 6 _ HC0.o (by omega) (by decide) (by decide)).mono ?_; rintro e w1 ⟨r1, k1, rfl, hr1, hk1, hc1, hb1⟩; have HC1 := Hd hc1; have HQ1 := Hd hb1; obtain ⟨hb, hhb⟩ : ∃ b, decide (0 < r1) = b := ⟨_, rfl⟩; clear hc1 hb1
 go_wp2_with fail
 refine (pick_any g N k1 2 _ HC1.o (by omega) (by decide) (by decide)).mono ?_; rintro e w2 ⟨r2, k2, rfl, hr2, hk2, hc2, hb2⟩; have HC2 := Hd hc2; have HQ2 : Hid (Bar g W0 w2) := HQ1.o.trans hb2; obtain ⟨ob, hob⟩ : ∃ b, ((r2 : Int) == 0) = b := ⟨_, rfl⟩; clear hc2 hb2; have hs2 : w.heap.size < w2.heap.size := by have := HQ2.o.size; have := HS0.o; omega
 obtain ⟨W2, hW2⟩ := exW (w2.alloc (.cells #[.bool hb, .bool ob, .string ⟨#[]⟩] 31)); have HW2 := Hd hW2; have HB2 : Hid (Up w2 W2) := by unfold Hid; rw [← hW2]; exact below_alloc _ _
 have HS2 : Hid (W2.heap.size = w2.heap.size + 1) := by show W2.heap.size = _; rw [← hW2]; simp
 have hx2_0 : Bx W2 (w2.heap.size) [.bool hb, .bool ob, .string ⟨#[]⟩] := by
  rw [← hW2]; exact bx_new w2 _ _
 have HX2 : Hid (∀ W, Up W2 W → Bx W (w2.heap.size) [.bool hb, .bool ob, .string ⟨#[]⟩]) := fun W hW => hx2_0.below hx2_0.lt hW; have HX32 := Hd hx2_0; have HC2' := Hd (HC2.o.below (HB2.o.mono HC2.o.2.1)); have HQ2' : Hid (Bar g W0 W2) := HQ2.o.trans (Bar.of HB2.o); have HB2' : Hid (Bar g w W2) := HBR0.o.trans HQ2'.o; have HG3 : Hid (w2.heap.size ≠ g) := by unfold Hid; have := HG.o; omega
 obtain ⟨m0, m1, m2⟩ := hx2_0.c3; clear hW2 hx2_0
 go_upto_region 2 with fail
 rw [HW2.o]; clear hhb hob; cases hb
 ·go_wp2_with fail
  refine (pick_any g N k2 4 _ HC2'.o (by omega) (by decide) (by decide)).mono ?_; rintro e w3 ⟨r3, k3, rfl, hr3, hk3, hc3, hb3⟩; have HC3 := Hd hc3; have HQ3 : Hid (Bar g W0 w3) := HQ2'.o.trans hb3; have HB3 : Hid (Bar g w w3) := HBR0.o.trans HQ3.o; have hx3 := HX32.o.bar hb3 HG3.o; have HX33 := Hd hx3; clear hc3 hb3 m0 m1 m2 hx3
  by_cases h0 : r3 = 0
  ·have z3 : ((r3 : Int) == 0) = true := by rw [beq_iff_eq]; omega
   clear h0
   go_wp2_with fail
   refine (rat_any g N k3 _ HC3.o (by omega)).mono ?_; rintro e w5 ⟨t, k5, rfl, ht, hk5, hc5, hb5⟩; have HT := Hd ht; have HC5 := Hd hc5; have HB5 : Hid (Bar g w w5) := HB3.o.trans hb5; have HQ5 : Hid (Bar g W0 w5) := HQ3.o.trans hb5; have hx3 := HX33.o.bar hb5 HG3.o; have HX35 := Hd hx3; clear ht hc5 hb5; obtain ⟨s0, s1, s2⟩ := hx3.c3; obtain ⟨sf0, sf1, sf2⟩ := hx3.f3; clear hx3; obtain ⟨W6, hW6⟩ := exW (w5.setCell ⟨w2.heap.size, 2, none⟩ (.string t)); have HW6 := Hd hW6; have hBl6 : Below w.heap.size w5 W6 := by rw [← hW6]; exact (Below.refl _ w5).setCell (p := ⟨w2.heap.size, 2, none⟩) (by dsimp only; omega) _
   have hBl7 : Below W0.heap.size w5 W6 := by rw [← hW6]; exact (Below.refl _ w5).setCell (p := ⟨w2.heap.size, 2, none⟩) (by dsimp only; have := HQ2.o.size; omega) _
   have HX36 : Hid (Bx W6 w2.heap.size [.bool false, .bool ob, .string t]) := by
    unfold Hid
    rw [← hW6]; exact HX35.o.set 2 (.string t)
   have HC6 := Hd (HC5.o.below (hBl6.mono HN.o)); have HB6 : Hid (Bar g w W6) := HB5.o.then hBl6; have HQ6 : Hid (Bar g W0 W6) := HQ5.o.then hBl7; clear hW6 hBl6 hBl7
   go_upto_region 4 with fail
   rw [HW6.o]; clear s0 s1 s2 sf0 sf1 sf2; have hx3 := HX36.o; have hx2 := HXR.o W6 HQ6.o; obtain ⟨m0, m1, m2⟩ := hx3.c3; obtain ⟨q0, q1, q2⟩ := hx2.c3; obtain ⟨qf0, qf1, qf2⟩ := hx2.f3; clear hx3 hx2
   go_wp2
   have hbw := HXR.o W6 HQ6.o; have hBl : Below w.heap.size W6 (((W6.setCell ⟨w.heap.size, 0, none⟩ (.bool false)).setCell ⟨w.heap.size, 1, none⟩ (.bool ob)).setCell ⟨w.heap.size, 2, none⟩ (.string t)) := ((((Below.refl _ W6).setCell (p := ⟨w.heap.size, 0, none⟩) leR (.bool false)).setCell (p := ⟨w.heap.size, 1, none⟩) leR (.bool ob)).setCell (p := ⟨w.heap.size, 2, none⟩) leR (.string t)); have hZ := hbw.s3 (.bool false) (.bool ob) (.string t); have hcu := HC6.o.below (hBl.mono HN.o); have hba := HB6.o.then hBl; generalize ((W6.setCell ⟨w.heap.size, 0, none⟩ (.bool false)).setCell ⟨w.heap.size, 1, none⟩ (.bool ob)).setCell ⟨w.heap.size, 2, none⟩ (.string t) = W9 at *; obtain ⟨v0, v1, v2⟩ := hZ.c3; refine bodyPost_ret (v := .agg #[.bool false, .bool ob, .string t]) ?_ rfl ⟨false, ob, t, k5, rfl, ?_, ?_, hcu, hba⟩
   ·simp [results, Tryz.results63, go_sem, v0, v1, v2]
   ·first | exact HT.o | exact Nat.zero_le _
   omega
  have z3 : ((r3 : Int) == 0) = false := by rw [beq_eq_false_iff_ne]; omega
  clear h0
  go_upto_region 4 with fail
  have hx3 := HX33.o; have hx2 := HXR.o w3 HQ3.o; obtain ⟨m0, m1, m2⟩ := hx3.c3; obtain ⟨q0, q1, q2⟩ := hx2.c3; obtain ⟨qf0, qf1, qf2⟩ := hx2.f3; clear hx3 hx2
  go_wp2
  have hbw := HXR.o w3 HQ3.o; have hBl : Below w.heap.size w3 (((w3.setCell ⟨w.heap.size, 0, none⟩ (.bool false)).setCell ⟨w.heap.size, 1, none⟩ (.bool ob)).setCell ⟨w.heap.size, 2, none⟩ (.string ⟨#[]⟩)) := ((((Below.refl _ w3).setCell (p := ⟨w.heap.size, 0, none⟩) leR (.bool false)).setCell (p := ⟨w.heap.size, 1, none⟩) leR (.bool ob)).setCell (p := ⟨w.heap.size, 2, none⟩) leR (.string ⟨#[]⟩)); have hZ := hbw.s3 (.bool false) (.bool ob) (.string ⟨#[]⟩); have hcu := HC3.o.below (hBl.mono HN.o); have hba := HB3.o.then hBl; generalize ((w3.setCell ⟨w.heap.size, 0, none⟩ (.bool false)).setCell ⟨w.heap.size, 1, none⟩ (.bool ob)).setCell ⟨w.heap.size, 2, none⟩ (.string ⟨#[]⟩) = W9 at *; obtain ⟨v0, v1, v2⟩ := hZ.c3; refine bodyPost_ret (v := .agg #[.bool false, .bool ob, .string ⟨#[]⟩]) ?_ rfl ⟨false, ob, ⟨#[]⟩, k3, rfl, ?_, ?_, hcu, hba⟩
  ·simp [results, Tryz.results63, go_sem, v0, v1, v2]
  ·first | exact HT.o | exact Nat.zero_le _
  omega
 clear m0 m1 m2; have hx3 := HX32.o; obtain ⟨m0, m1, m2⟩ := hx3.c3; clear hx3
 go_wp2_with fail
 refine (rat_any g N k2 _ HC2'.o (by omega)).mono ?_; rintro e w5 ⟨t, k5, rfl, ht, hk5, hc5, hb5⟩; have HT := Hd ht; have HC5 := Hd hc5; have HB5 : Hid (Bar g w w5) := HB2'.o.trans hb5; have HQ5 : Hid (Bar g W0 w5) := HQ2'.o.trans hb5; have hx3 := HX32.o.bar hb5 HG3.o; have HX35 := Hd hx3; clear ht hc5 hb5 m0 m1 m2; obtain ⟨s0, s1, s2⟩ := hx3.c3; obtain ⟨sf0, sf1, sf2⟩ := hx3.f3; clear hx3; obtain ⟨W6, hW6⟩ := exW (w5.setCell ⟨w2.heap.size, 2, none⟩ (.string t)); have HW6 := Hd hW6; have hBl6 : Below w.heap.size w5 W6 := by rw [← hW6]; exact (Below.refl _ w5).setCell (p := ⟨w2.heap.size, 2, none⟩) (by dsimp only; omega) _
 have hBl7 : Below W0.heap.size w5 W6 := by rw [← hW6]; exact (Below.refl _ w5).setCell (p := ⟨w2.heap.size, 2, none⟩) (by dsimp only; have := HQ2.o.size; omega) _
 have HX36 : Hid (Bx W6 w2.heap.size [.bool true, .bool ob, .string t]) := by
  unfold Hid
  rw [← hW6]; exact HX35.o.set 2 (.string t)
 have HC6 := Hd (HC5.o.below (hBl6.mono HN.o)); have HB6 : Hid (Bar g w W6) := HB5.o.then hBl6; have HQ6 : Hid (Bar g W0 W6) := HQ5.o.then hBl7; clear hW6 hBl6 hBl7
 go_upto_region 4 with fail
 rw [HW6.o]; clear s0 s1 s2 sf0 sf1 sf2; have hx3 := HX36.o; have hx2 := HXR.o W6 HQ6.o; obtain ⟨m0, m1, m2⟩ := hx3.c3; obtain ⟨q0, q1, q2⟩ := hx2.c3; obtain ⟨qf0, qf1, qf2⟩ := hx2.f3; clear hx3 hx2
 go_wp2
 have hbw := HXR.o W6 HQ6.o; have hBl : Below w.heap.size W6 (((W6.setCell ⟨w.heap.size, 0, none⟩ (.bool true)).setCell ⟨w.heap.size, 1, none⟩ (.bool ob)).setCell ⟨w.heap.size, 2, none⟩ (.string t)) := ((((Below.refl _ W6).setCell (p := ⟨w.heap.size, 0, none⟩) leR (.bool true)).setCell (p := ⟨w.heap.size, 1, none⟩) leR (.bool ob)).setCell (p := ⟨w.heap.size, 2, none⟩) leR (.string t)); have hZ := hbw.s3 (.bool true) (.bool ob) (.string t); have hcu := HC6.o.below (hBl.mono HN.o); have hba := HB6.o.then hBl; generalize ((W6.setCell ⟨w.heap.size, 0, none⟩ (.bool true)).setCell ⟨w.heap.size, 1, none⟩ (.bool ob)).setCell ⟨w.heap.size, 2, none⟩ (.string t) = W9 at *; obtain ⟨v0, v1, v2⟩ := hZ.c3; refine bodyPost_ret (v := .agg #[.bool true, .bool ob, .string t]) ?_ rfl ⟨true, ob, t, k5, rfl, ?_, ?_, hcu, hba⟩
 ·simp [results, Tryz.results63, go_sem, v0, v1, v2]
 ·first | exact HT.o | exact Nat.zero_le _
 omega
def DrawP (e : Ending) (w w' : World) : Prop := ∃ (h1 o1 : Bool) (t1 : ByteArray) (h2 o2 : Bool) (t2 : ByteArray), e = .returned (.tuple #[.agg #[.bool h1, .bool o1, .string t1], .agg #[.bool h2, .bool o2, .string t2]]) ∧ t1.size ≤ 14000 ∧ t2.size ≤ 14000 ∧ Up w w'
structure Ends2 (g N b5 b6 : Nat) (k : Nat) (w W : World) (h1 o1 : Bool) (t1 : ByteArray) (h2 o2 : Bool) (t2 : ByteArray) : Prop where
 a : Bx W b5 [.bool h1, .bool o1, .string t1]
 b : Bx W b6 [.bool h2, .bool o2, .string t2]
 c : IsCur g N W k
 s1 : t1.size ≤ 14000
 s2 : t2.size ≤ 14000
 r : Bar g w W
 g5 : w.heap.size ≤ b5 ∧ b5 < b6 ∧ g < w.heap.size
theorem Ends2.bar {g N b5 b6 k k' : Nat} {w W W' : World} {h1 o1 : Bool} {t1 : ByteArray} {h2 o2 : Bool} {t2 : ByteArray} (h : Ends2 g N b5 b6 k w W h1 o1 t1 h2 o2 t2) (hb : Bar g W W') (hc : IsCur g N W' k') : Ends2 g N b5 b6 k' w W' h1 o1 t1 h2 o2 t2 :=
 ⟨h.a.bar hb (by have := h.g5; omega), h.b.bar hb (by have := h.g5; omega), hc, h.s1, h.s2, h.r.trans hb, h.g5⟩
theorem Ends2.below {g N b5 b6 k : Nat} {w W W' : World} {h1 o1 : Bool} {t1 : ByteArray} {h2 o2 : Bool} {t2 : ByteArray} (h : Ends2 g N b5 b6 k w W h1 o1 t1 h2 o2 t2) (hb : Up W W') : Ends2 g N b5 b6 k w W' h1 o1 t1 h2 o2 t2 :=
 ⟨h.a.below h.a.lt hb, h.b.below h.b.lt hb, h.c.below (hb.mono h.c.2.1), h.s1, h.s2, h.r.trans (Bar.of hb), h.g5⟩
theorem Ends2.put5 {g N b5 b6 k : Nat} {w W : World} {h1 o1 : Bool} {t1 : ByteArray} {h2 o2 : Bool} {t2 : ByteArray} (h : Ends2 g N b5 b6 k w W h1 o1 t1 h2 o2 t2) (t : ByteArray) (ht : t.size ≤ 14000) (hN : N ≤ w.heap.size) : Ends2 g N b5 b6 k w (W.setCell ⟨b5, 2, none⟩ (.string t)) h1 o1 t h2 o2 t2 := by
 have hbl : Below w.heap.size W (W.setCell ⟨b5, 2, none⟩ (.string t)) := (Below.refl _ W).setCell (p := ⟨b5, 2, none⟩) h.g5.1 _; have hb2 : Below b5 W (W.setCell ⟨b5, 2, none⟩ (.string t)) := (Below.refl _ W).setCell (p := ⟨b5, 2, none⟩) leR _; exact ⟨h.a.set 2 _, h.b.other ⟨b5, 2, none⟩ (by have := h.g5; dsimp only; omega) _, h.c.below (hb2.mono (Nat.le_trans hN h.g5.1)), ht, h.s2, h.r.then hbl, h.g5⟩
theorem Ends2.put6 {g N b5 b6 k : Nat} {w W : World} {h1 o1 : Bool} {t1 : ByteArray} {h2 o2 : Bool} {t2 : ByteArray} (h : Ends2 g N b5 b6 k w W h1 o1 t1 h2 o2 t2) (t : ByteArray) (ht : t.size ≤ 14000) (hN : N ≤ w.heap.size) : Ends2 g N b5 b6 k w (W.setCell ⟨b6, 2, none⟩ (.string t)) h1 o1 t1 h2 o2 t := by
 have h6 : w.heap.size ≤ b6 := by have := h.g5; omega
 have hbl : Below w.heap.size W (W.setCell ⟨b6, 2, none⟩ (.string t)) := (Below.refl _ W).setCell (p := ⟨b6, 2, none⟩) h6 _; exact ⟨h.a.other ⟨b6, 2, none⟩ (by have := h.g5; dsimp only; omega) _, h.b.set 2 _, h.c.below (hbl.mono hN), h.s1, ht, h.r.then hbl, h.g5⟩
theorem farAt {W : World} {a : Addr} {v : Value} (p : Addr) (h : W.cell? a = some v) (hp : p.block ≠ a.block) (u : Value) : (W.setCell p u).cell? a = some v := by
 rw [World.cell?_setCell_far _ _ _ _ hp]; exact h
set_option maxRecDepth 100000 in
set_option maxHeartbeats 8000000 in
theorem drawSimplest_any (a : Option Addr) (n cap : Nat) (w : World) (h : CodeArg w a n cap) :
 Calls Tryz.prog 26 #[.slice a n cap] w fun e w' => DrawP e w w' := by
 obtain ⟨W0, hW0⟩ := exW (((w.alloc (.cells #[.bool false, .bool false, .string ⟨#[]⟩] 31)).alloc (.cells #[.bool false, .bool false, .string ⟨#[]⟩] 31)).alloc (.cells #[.slice a n cap, .int .i64 0, .int .u64 0] 76)); have HW0 := Hd hW0; have HB0 : Hid (Up w W0) := by unfold Hid; rw [← hW0]; exact below_al (below_al (below_alloc _ _) _) _
 have HS0 : Hid (W0.heap.size = w.heap.size + 3) := by show W0.heap.size = _; rw [← hW0]; simp
 have hx0_0 : Bx W0 (w.heap.size) [.bool false, .bool false, .string ⟨#[]⟩] := by
  rw [← hW0]; exact ((bx_new w _ _).alloc _).alloc _
 have hx0_1 : Bx W0 (w.heap.size + 1) [.bool false, .bool false, .string ⟨#[]⟩] := by
  rw [← hW0]; have h := bx_new (w.alloc (.cells #[.bool false, .bool false, .string ⟨#[]⟩] 31)) [.bool false, .bool false, .string ⟨#[]⟩] 31; rw [World.size_alloc] at h; exact (h).alloc _
 have hx0_2 : Bx W0 (w.heap.size + 1 + 1) [.slice a n cap, .int .i64 0, .int .u64 0] := by
  rw [← hW0]; have h := bx_new ((w.alloc (.cells #[.bool false, .bool false, .string ⟨#[]⟩] 31)).alloc (.cells #[.bool false, .bool false, .string ⟨#[]⟩] 31)) [.slice a n cap, .int .i64 0, .int .u64 0] 76; rw [World.size_alloc, World.size_alloc] at h; exact h
 have HX0 : Hid (∀ W, Up W0 W → Bx W (w.heap.size) [.bool false, .bool false, .string ⟨#[]⟩] ∧ Bx W (w.heap.size + 1) [.bool false, .bool false, .string ⟨#[]⟩] ∧ Bx W (w.heap.size + 1 + 1) [.slice a n cap, .int .i64 0, .int .u64 0]) := fun W hW => ⟨hx0_0.below hx0_0.lt hW, hx0_1.below hx0_1.lt hW, hx0_2.below hx0_2.lt hW⟩; have HC0 : Hid (IsCur (w.heap.size + 1 + 1) (w.heap.size + 1 + 1 + 1) W0 0) := by
  show IsCur _ _ _ _
  have hca := (h.below (below_alloc w (.cells #[.bool false, .bool false, .string ⟨#[]⟩] 31))).below (below_alloc _ (.cells #[.bool false, .bool false, .string ⟨#[]⟩] 31)); have hcu := cur_new hca 76; rw [World.size_alloc, World.size_alloc] at hcu; rw [← hW0]; exact hcu
 obtain ⟨g, hg⟩ := exW (w.heap.size + 1 + 1); obtain ⟨N, hN⟩ := exW (w.heap.size + 1 + 1 + 1); rw [hg] at HC0; have HGN : Hid (w.heap.size + 1 + 1 = g ∧ N = g + 1) := ⟨hg, by omega⟩; have HC0' : Hid (IsCur g N W0 0) := by
  unfold Hid
  have h9 := HC0.o; have e9 : g + 1 = N := by omega
  rw [e9] at h9; exact h9
 have HR0 := Hd hx0_0; have HR1 := Hd hx0_1; have HNW : Hid (N ≤ W0.heap.size) := HC0'.o.2.1; clear h hW0 hg hN HC0 hx0_2 hx0_0 hx0_1
 go_enter Tryz.func26, Tryz.ntmps26
 go_upto_region 2 with fail
 rw [HW0.o, HGN.o.1]
 go_wp2_with fail
 refine (end_any g N 0 W0 HC0'.o (by decide)).mono ?_; intro e w1 hP1; obtain ⟨h1, o1, t1, k1, rfl, hs1, hk1, hc1, hb1⟩ := hP1; have HS1 := Hd hs1; have HC1 := Hd hc1; have HQ1 := Hd hb1; clear hs1 hc1 hb1; obtain ⟨W1, hW1⟩ := exW (w1.alloc (.cells #[.bool h1, .bool o1, .string t1] 31)); have HW1 := Hd hW1; have HB1 : Hid (Up w1 W1) := by unfold Hid; rw [← hW1]; exact below_alloc _ _
 have HS1b : Hid (W1.heap.size = w1.heap.size + 1) := by show W1.heap.size = _; rw [← hW1]; simp
 have hx1_0 : Bx W1 (w1.heap.size) [.bool h1, .bool o1, .string t1] := by
  rw [← hW1]; exact bx_new w1 _ _
 have HX1 : Hid (∀ W, Up W1 W → Bx W (w1.heap.size) [.bool h1, .bool o1, .string t1]) := fun W hW => hx1_0.below hx1_0.lt hW; have HXa := Hd hx1_0; have HC1' := Hd (HC1.o.below (HB1.o.mono HC1.o.2.1)); clear hW1 hx1_0
 go_upto_region 3 with fail
 rw [HW1.o]
 go_wp2_with fail
 refine (end_any g N k1 W1 HC1'.o (by omega)).mono ?_; intro e w2 hP2; obtain ⟨h2, o2, t2, k2, rfl, hs2, hk2, hc2, hb2⟩ := hP2; have HQ2 := Hd hb2; obtain ⟨W2, hW2⟩ := exW (w2.alloc (.cells #[.bool h2, .bool o2, .string t2] 31)); have HW2 := Hd hW2; have HB2 : Hid (Up w2 W2) := by unfold Hid; rw [← hW2]; exact below_alloc _ _
 have HS2 : Hid (W2.heap.size = w2.heap.size + 1) := by show W2.heap.size = _; rw [← hW2]; simp
 have hx2_0 : Bx W2 (w2.heap.size) [.bool h2, .bool o2, .string t2] := by
  rw [← hW2]; exact bx_new w2 _ _
 have HX2 : Hid (∀ W, Up W2 W → Bx W (w2.heap.size) [.bool h2, .bool o2, .string t2]) := fun W hW => hx2_0.below hx2_0.lt hW; have hz1 : W0.heap.size ≤ w1.heap.size := HQ1.o.size; have hz2 : w1.heap.size < w2.heap.size := by have := HQ2.o.size; have := HS1b.o; omega
 have HE0 : Hid (Ends2 g N w1.heap.size w2.heap.size k2 W0 W2 h1 o1 t1 h2 o2 t2) := by
  have hgl : g < W0.heap.size := Nat.lt_of_lt_of_le HC0'.o.1 HC0'.o.2.1; refine ⟨((HXa.o.bar hb2 (by omega)).below (by omega) HB2.o), hx2_0, hc2.below (HB2.o.mono hc2.2.1), HS1.o, hs2, (HQ1.o.trans (Bar.of HB1.o)).trans (hb2.trans (Bar.of HB2.o)), hz1, hz2, hgl⟩
 have hk2' : k2 ≤ 40000 := by omega
 clear hs2 hc2 hb2 hW2 hx2_0 hk1 hk2
 go_upto_region 4 with fail
 rw [HW2.o]; have TR : Hid (∀ (t : ByteArray) (ht : t.size ≤ 14000) W, Calls Tryz.prog 57 #[.string t] W (fun e w' => ∃ b, e = .returned (.bool b) ∧ Up W w')) := fun t ht W => by
  refine (specIsRat_any t W (max_of ht (by decide))).mono ?_; rintro e w' ⟨b, rfl, _, hb⟩; exact ⟨b, rfl, hb⟩
 go_cut [35] (fun q35 wx => ∃ (bb : Bool) (k3 : Nat), q35 = .bool bb ∧ k3 ≤ 50000 ∧ Ends2 g N w1.heap.size w2.heap.size k3 W0 wx h1 o1 t1 h2 o2 t2)
 case first =>
  have hxe5 := (HE0.o).a; have hxe6 := (HE0.o).b; obtain ⟨m0, m1, m2⟩ := hxe5.c3; obtain ⟨zm0, zm1, zm2⟩ := hxe6.c3; clear hxe5 hxe6
  go_wp2_with fail
  refine (pick_any g N k2 3 _ HE0.o.c (by omega) (by decide) (by decide)).mono ?_; rintro e w3 ⟨r3, k3, rfl, hr3, hk3, hc3, hb3⟩; have HE3 := Hd (HE0.o.bar hb3 hc3); clear hc3 hb3 m0 m1 m2 zm0 zm1 zm2; have hxe5 := (HE3.o).a; have hxe6 := (HE3.o).b; obtain ⟨m0, m1, m2⟩ := hxe5.c3; obtain ⟨zm0, zm1, zm2⟩ := hxe6.c3; clear hxe5 hxe6
  by_cases h0 : 0 < r3
  ·have z3 : decide (0 < r3) = true := decide_eq_true h0; clear h0; cases h1
   ·go_wp2_with fail
    go_meet
    exact ⟨false, k3, rfl, by omega, HE3.o⟩
   ·cases h2
    ·go_wp2_with fail
     go_meet
     exact ⟨false, k3, rfl, by omega, HE3.o⟩
    ·go_wp2_with fail
     refine (TR.o t1 HE3.o.s1 _).mono ?_; rintro e w4 ⟨b4, rfl, hb4⟩; have HE4 := Hd (HE3.o.below hb4); clear hb4 m0 m1 m2 zm0 zm1 zm2; have hxe5 := (HE4.o).a; have hxe6 := (HE4.o).b; obtain ⟨m0, m1, m2⟩ := hxe5.c3; obtain ⟨zm0, zm1, zm2⟩ := hxe6.c3; clear hxe5 hxe6
     cases b4
     ·go_wp2_with fail
      go_meet
      exact ⟨false, k3, rfl, by omega, HE4.o⟩
     ·go_wp2_with fail
      refine (TR.o t2 HE4.o.s2 _).mono ?_; rintro e w5 ⟨b5, rfl, hb5⟩; have HE5 := Hd (HE4.o.below hb5); clear hb5
      go_wp2_with fail
      go_meet
      exact ⟨b5, k3, rfl, by omega, HE5.o⟩
  ·have z3 : decide (0 < r3) = false := decide_eq_false h0; clear h0
   go_wp2_with fail
   go_meet
   exact ⟨false, k3, rfl, by omega, HE3.o⟩
 case rest =>
  obtain ⟨bb, k3, rfl, hk3, hE⟩ := hcut; obtain ⟨wa, rfl⟩ : ∃ wa, wa = wc := ⟨_, rfl⟩; have HE1 := Hd hE; clear hE
  go_upto_if 35 with fail
  go_cut [] (fun wx => ∃ (t3 t4 : ByteArray) (k4 : Nat), Ends2 g N w1.heap.size w2.heap.size k4 W0 wx h1 o1 t3 h2 o2 t4)
  case first =>
   cases bb
   ·go_wp2_with fail
    go_meet
    exact ⟨_, _, _, HE1.o⟩
   have hxe5 := (HE1.o).a; have hxe6 := (HE1.o).b; obtain ⟨m0, m1, m2⟩ := hxe5.c3; obtain ⟨zm0, zm1, zm2⟩ := hxe6.c3; clear hxe5 hxe6
   go_wp2_with fail
   refine (specRatCmp_any t1 t2 _ (max_of HE1.o.s1 (by decide)) (max_of HE1.o.s2 (by decide))).mono ?_; rintro e wb ⟨r5, rfl, _, hb⟩; have HE2 := Hd (HE1.o.below hb); clear hb m0 m1 m2 zm0 zm1 zm2
   go_upto_if 41 with fail
   go_cut [] (fun wx => ∃ (t3 t4 : ByteArray), Ends2 g N w1.heap.size w2.heap.size k3 W0 wx h1 o1 t3 h2 o2 t4)
   case first =>
    have hxe5 := (HE2.o).a; have hxe6 := (HE2.o).b; obtain ⟨m0, m1, m2⟩ := hxe5.c3; obtain ⟨mf0, mf1, mf2⟩ := hxe5.f3; obtain ⟨zm0, zm1, zm2⟩ := hxe6.c3; obtain ⟨zmf0, zmf1, zmf2⟩ := hxe6.f3; clear hxe5 hxe6
    by_cases h0 : 0 < r5
    ·have z5 : decide (0 < r5) = true := decide_eq_true h0
     go_wp2_with fail
     go_meet
     exact ⟨t2, t1, (HE2.o.put5 t2 HE2.o.s2 HNW.o).put6 t1 HE2.o.s1 HNW.o⟩
    ·have z5 : decide (0 < r5) = false := decide_eq_false h0
     go_wp2_with fail
     go_meet
     exact ⟨_, _, HE2.o⟩
   case rest =>
    obtain ⟨t3, t4, hE⟩ := hcut; obtain ⟨wd, rfl⟩ : ∃ wd, wd = wc := ⟨_, rfl⟩; have HE3 := Hd hE; clear hE
    go_wp2_with fail
    refine (pick_any g N k3 3 _ HE3.o.c (by omega) (by decide) (by decide)).mono ?_; rintro e we ⟨r9, k9, rfl, hr9, hk9, hc9, hb9⟩; have HE4 := Hd (HE3.o.bar hb9 hc9); clear hc9 hb9
    by_cases h0 : r9 = 0
    ·have z9 : ((r9 : Int) == 0) = true := by rw [beq_iff_eq]; omega
     clear h0; have hm2 := HE4.o.a.cell 2; simp only [List.getElem?_cons_zero, List.getElem?_cons_succ] at hm2; have hgg : g < N := HE4.o.c.1
     go_wp2_with fail
     go_region_held3 (fun W => W.cell? ⟨w1.heap.size, 2, none⟩ = some (.string t3)) (first
      | with_reducible assumption | with_reducible exact farAt _ (by with_reducible assumption) (by dsimp only; omega) _ | go_keep) (first
      | (go_at_call_of 64 (Value.int IntKind.i64 3)
         refine (pick_any g N k9 3 _ ?_ (by omega) (by decide) (by decide)).mono ?_
         ·exact (HE4.o.below (Below.refl _ _).drew).c
         rintro e wp1 ⟨r10, k10, rfl, hr10, hk10, hc, hb⟩; have HE5 := Hd ((HE4.o.below (Below.refl _ _).drew).bar hb hc); have hS1 := HE5.o.a.cell 2; simp only [List.getElem?_cons_zero, List.getElem?_cons_succ] at hS1; clear hc hb)
      | (go_at_call_of 67 (Value.int IntKind.i64 (r10 : Int))
         refine (l1Small_any (r10 : Int) _ (by omega) (by omega)).mono ?_; rintro e wp2 ⟨z1, rfl, hz, hb⟩; have HZ1 := Hd hz; have HE6 := Hd (HE5.o.below hb); have hS2 := HE6.o.a.cell 2; simp only [List.getElem?_cons_zero, List.getElem?_cons_succ] at hS2; clear hz hb)
      | (go_at_call_of 64 (Value.int IntKind.i64 200)
         refine (pick_any g N k10 200 _ HE6.o.c (by omega) (by decide) (by decide)).mono ?_; rintro e wp3 ⟨r12, k12, rfl, hr12, hk12, hc, hb⟩; have HE7 := Hd (HE6.o.bar hb hc); have hwr : IntKind.i64.wrap (1 + (r12 : Int)) = 1 + (r12 : Int) := wrap_id _ (by omega) (by omega); have HZ2 := Hd ((HZ1.o.bar hb (by have := HE5.o.c.2.1; omega)).mono' (B' := 0) (n' := 1000) (Nat.zero_le _) (by decide)); have hS3 := HE7.o.a.cell 2; simp only [List.getElem?_cons_zero, List.getElem?_cons_succ] at hS3; clear hc hb)
      | (go_at_call 67
         refine (l1Small_any (1 + (r12 : Int)) _ (by omega) (by omega)).mono ?_; rintro e wp4 ⟨z2, rfl, hz, hb⟩; have HZ3 := Hd (hz.mono' (B' := 0) (n' := 1000) (Nat.zero_le _) (by decide)); have HZ2' := Hd (HZ2.o.below hb); have HE8 := Hd (HE7.o.below hb); have hS4 := HE8.o.a.cell 2; simp only [List.getElem?_cons_zero, List.getElem?_cons_succ] at hS4; clear hz hb)
      | (go_at_call 66
         refine (l2Make_any 0 _ _ (r10 : Int) (1 + (r12 : Int)) _ (Nat.zero_le _) HZ2'.o HZ3.o (by omega)).mono ?_; rintro e wp5 ⟨z3, px, qx, rfl, hq, hlow, hb⟩; have HQ := Hd hq; have HBD := Hd (low_bd (k := 600) hlow (lb_le 1 600 (by decide) (by unfold lb; omega)) (lb_le 1 600 (by decide) (by unfold lb; omega))); have HE9 := Hd (HE8.o.below hb); have hS5 := HE9.o.a.cell 2; simp only [List.getElem?_cons_zero, List.getElem?_cons_succ] at hS5; clear hq hlow hb)
      | (go_at_call 65
         refine (l2TextS_any 0 z3 px qx _ (Nat.zero_le _) HQ.o HBD.o.1 HBD.o.2).mono ?_; rintro e wp6 ⟨u6, rfl, hu, hb⟩; have HU6 := Hd hu; have HEa := Hd (HE9.o.below hb); have hS6 := HEa.o.a.cell 2; simp only [List.getElem?_cons_zero, List.getElem?_cons_succ] at hS6; clear hu hb)
      | (go_at_call 32
         refine (specRatAdd_any t3 u6 _ (max_of HE4.o.s1 (by decide)) (max_of HU6.o (by decide))).mono ?_; rintro e wm ⟨u7, rfl, hu, hb⟩; have HU7 := Hd (resQ_size hu); have HEb := Hd (HEa.o.below hb); have hS7 := HEb.o.a.cell 2; simp only [List.getElem?_cons_zero, List.getElem?_cons_succ] at hS7; have hxb := HEb.o.b; obtain ⟨y0, y1, y2⟩ := hxb.c3; obtain ⟨yf0, yf1, yf2⟩ := hxb.f3; clear hu hb hxb))
     all_goals
      go_wp2_with fail
      go_meet
      exact ⟨_, _, _, HEb.o.put6 u7 (Nat.le_trans HU7.o (by decide)) HNW.o⟩
    ·have z9 : ((r9 : Int) == 0) = false := by rw [beq_eq_false_iff_ne]; omega
     clear h0
     go_wp2_with fail
     go_meet
     exact ⟨_, _, _, HE4.o⟩
  case rest =>
   obtain ⟨t3, t4, k4, hE⟩ := hcut; obtain ⟨wd, rfl⟩ : ∃ wd, wd = wc := ⟨_, rfl⟩; have HE2 := Hd hE; have hR0 := HR0.o.bar HE2.o.r (by have := HGN.o; omega); have hR1 := HR1.o.bar HE2.o.r (by have := HGN.o; omega); clear hE; have hxe5 := (HE2.o).a; have hxe6 := (HE2.o).b; obtain ⟨m0, m1, m2⟩ := hxe5.c3; obtain ⟨zm0, zm1, zm2⟩ := hxe6.c3; clear hxe5 hxe6; obtain ⟨q0, q1, q2⟩ := hR0.c3; obtain ⟨qf0, qf1, qf2⟩ := hR0.f3; obtain ⟨s0, s1, s2⟩ := hR1.c3; obtain ⟨sf0, sf1, sf2⟩ := hR1.f3; have hza : w.heap.size + 1 < W0.heap.size := by have := HS0.o; omega
   go_wp2_with fail
   go_region
   all_goals
    go_wp2
    have hR0' := HR0.o.bar HE2.o.r (by have := HGN.o; omega); have hR1' := HR1.o.bar HE2.o.r (by have := HGN.o; omega); have hB9 : Up w (((((((wd.setCell ⟨w.heap.size, 0, none⟩ (.bool h1)).setCell ⟨w.heap.size, 1, none⟩ (.bool o1)).setCell ⟨w.heap.size, 2, none⟩ (.string t3)).setCell ⟨w.heap.size + 1, 0, none⟩ (.bool h2)).setCell ⟨w.heap.size + 1, 1, none⟩ (.bool o2)).setCell ⟨w.heap.size + 1, 2, none⟩ (.string t4)).drew) := by
     refine Below.drew ?_; exact (((((((HB0.o.trans (HE2.o.r.below (N := w.heap.size) (by have := HGN.o; omega) (by omega))).setCell (p := ⟨w.heap.size, 0, none⟩) leR (.bool h1)).setCell (p := ⟨w.heap.size, 1, none⟩) leR (.bool o1)).setCell (p := ⟨w.heap.size, 2, none⟩) leR (.string t3)).setCell (p := ⟨w.heap.size + 1, 0, none⟩) (Nat.le_succ _) (.bool h2)).setCell (p := ⟨w.heap.size + 1, 1, none⟩) (Nat.le_succ _) (.bool o2)).setCell (p := ⟨w.heap.size + 1, 2, none⟩) (Nat.le_succ _) (.string t4))
    have hZ1 : Bx (((((((wd.setCell ⟨w.heap.size, 0, none⟩ (.bool h1)).setCell ⟨w.heap.size, 1, none⟩ (.bool o1)).setCell ⟨w.heap.size, 2, none⟩ (.string t3)).setCell ⟨w.heap.size + 1, 0, none⟩ (.bool h2)).setCell ⟨w.heap.size + 1, 1, none⟩ (.bool o2)).setCell ⟨w.heap.size + 1, 2, none⟩ (.string t4)).drew) w.heap.size [.bool h1, .bool o1, .string t3] :=
     ((((((hR0'.set 0 (.bool h1)).set 1 (.bool o1)).set 2 (.string t3)).other ⟨w.heap.size + 1, 0, none⟩ (by dsimp only; omega) (.bool h2)).other ⟨w.heap.size + 1, 1, none⟩ (by dsimp only; omega) (.bool o2)).other ⟨w.heap.size + 1, 2, none⟩ (by dsimp only; omega) (.string t4)).drew
    have hZ2 : Bx (((((((wd.setCell ⟨w.heap.size, 0, none⟩ (.bool h1)).setCell ⟨w.heap.size, 1, none⟩ (.bool o1)).setCell ⟨w.heap.size, 2, none⟩ (.string t3)).setCell ⟨w.heap.size + 1, 0, none⟩ (.bool h2)).setCell ⟨w.heap.size + 1, 1, none⟩ (.bool o2)).setCell ⟨w.heap.size + 1, 2, none⟩ (.string t4)).drew) (w.heap.size + 1) [.bool h2, .bool o2, .string t4] :=
     ((((((((hR1'.other ⟨w.heap.size, 0, none⟩ (by dsimp only; omega) (.bool h1)).other ⟨w.heap.size, 1, none⟩ (by dsimp only; omega) (.bool o1)).other ⟨w.heap.size, 2, none⟩ (by dsimp only; omega) (.string t3)).set 0 (.bool h2)).set 1 (.bool o2)).set 2 (.string t4)))).drew
    generalize ((((((wd.setCell ⟨w.heap.size, 0, none⟩ (.bool h1)).setCell ⟨w.heap.size, 1, none⟩ (.bool o1)).setCell ⟨w.heap.size, 2, none⟩ (.string t3)).setCell ⟨w.heap.size + 1, 0, none⟩ (.bool h2)).setCell ⟨w.heap.size + 1, 1, none⟩ (.bool o2)).setCell ⟨w.heap.size + 1, 2, none⟩ (.string t4)).drew = W9 at *; obtain ⟨v0, v1, v2⟩ := hZ1.c3; obtain ⟨x0, x1, x2⟩ := hZ2.c3; refine bodyPost_ret (v := .tuple #[.agg #[.bool h1, .bool o1, .string t3], .agg #[.bool h2, .bool o2, .string t4]]) ?_ rfl ⟨h1, o1, t3, h2, o2, t4, rfl, HE2.o.s1, HE2.o.s2, hB9⟩; simp [results, Tryz.results26, go_sem, v0, v1, v2, x0, x1, x2]
theorem Tryz.info_str : (Tryz.prog.info? 9).map (fun i => (i.zero, i.size, i.bytes)) = some (some (.string ⟨#[]⟩), 1, 16) := by kernel_rfl
theorem cur_seed {w : World} {a : Option Addr} {n cap : Nat} (h : CodeArg w a n cap) (ty : TypeId) : IsCur w.heap.size (w.heap.size + 1) (w.alloc (.cells #[.slice a n cap, .int .i64 0, .int .u64 3] ty)) 0 := by
 refine ⟨Nat.lt_succ_self _, by rw [World.size_alloc]; exact leR, a, n, cap, 3, bx_new w _ ty, by decide, h.1, h.2.1, fun i hi => ?_⟩; obtain ⟨b, off, v, e, h1, h2, h3⟩ := h.2.2 i hi; exact ⟨b, off, v, e, by omega, by omega, h2, ((below_alloc w _).cell (p := ⟨b, off + i, none⟩) h1).trans h3⟩
theorem own_below {w w' : World} {base : Nat} {e : TypeId} {v : Value} {n : Nat} {xs : List Value} (h : w.ownsRow base e 1 v n xs) (hb : Up w w') : w'.ownsRow base e 1 v n xs :=
 h.kept (row := none) ⟨hb.os, hb.tape, hb.output, hb.size, fun k hk _ => hb.block k hk⟩ (by cases v.ownBlock <;> simp)
theorem own_bar {w w' : World} {base g : Nat} {e : TypeId} {v : Value} {n : Nat} {xs : List Value} (h : w.ownsRow base e 1 v n xs) (hb : Bar g w w') (hg : g < base) : w'.ownsRow base e 1 v n xs :=
 h.kept hb.grownBy (.inr (fun e => by have := (h.lt g e).1; omega))
def NumInv (g N : Nat) (w : World) (v i : Value) (W : World) : Prop := ∃ (k kc : Nat) (us : List ByteArray), k ≤ 12 ∧ i = .int .i64 (k : Nat) ∧ us.length = k ∧ (∀ u ∈ us, u.size ≤ 14000) ∧ W.ownsRow N 9 1 v k (us.map Value.string) ∧ kc ≤ 20 * k ∧ IsCur g N W kc ∧ Bar g w W
set_option maxRecDepth 100000 in
set_option maxHeartbeats 8000000 in
theorem numbersL_any (a : Option Addr) (n cap : Nat) (w : World) (h : CodeArg w a n cap) :
 Calls Tryz.prog 30 #[.slice a n cap, .int .i64 0, .int .i64 12] w fun e w' => ∃ (v : Value) (us : List ByteArray), e = .returned v ∧ us.length ≤ 12 ∧ (∀ u ∈ us, u.size ≤ 14000) ∧ w'.ownsRow 0 9 1 v us.length (us.map Value.string) ∧ Up w w' := by
 obtain ⟨i0, hinf, hz0, hz1, hz2⟩ := info_parts Tryz.info_str; obtain ⟨W0, hW0⟩ := exW (w.alloc (.cells #[.slice a n cap, .int .i64 0, .int .u64 3] 76)); have HW0 := Hd hW0; have HB0 : Hid (Up w W0) := by unfold Hid; rw [← hW0]; exact below_alloc _ _
 have HS0 : Hid (W0.heap.size = w.heap.size + 1) := by show W0.heap.size = _; rw [← hW0]; simp
 have hx0_0 : Bx W0 (w.heap.size) [.slice a n cap, .int .i64 0, .int .u64 3] := by
  rw [← hW0]; exact bx_new w _ _
 have HX0 : Hid (∀ W, Up W0 W → Bx W (w.heap.size) [.slice a n cap, .int .i64 0, .int .u64 3]) := fun W hW => hx0_0.below hx0_0.lt hW; have HC0 : Hid (IsCur w.heap.size (w.heap.size + 1) W0 0) := by show IsCur _ _ _ _; rw [← hW0]; exact cur_seed h _
 obtain ⟨g, hg⟩ := exW w.heap.size; obtain ⟨N, hN⟩ := exW (w.heap.size + 1); have HWN : Hid (W0.heap.size = N) := HS0.o.trans hN; have hgN : g < N := by omega
 have HC1 : Hid (IsCur g N W0 0) := by unfold Hid; rw [← hg, ← hN]; exact HC0.o
 have HGW : Hid (w.heap.size = g) := hg; clear h hW0 hN HC0 hx0_0 hg
 go_enter Tryz.func30, Tryz.ntmps30
 go_upto_region 2 with fail
 rw [HW0.o, HGW.o]
 go_wp2_with fail
 go_loopw [8, 9] (NumInv g N W0) (fun _ i _ => 12 - (intOf i).toNat)
 case atStart => exact ⟨0, 0, [], by decide, rfl, rfl, fun u hu => (by cases hu), World.ownsRow_nil _ _ _ _, leR, HC1.o, Bar.refl _ _⟩
 case round =>
  obtain ⟨k, kc, us, hk, rfl, hlen, hsz, hown, hkc, hcur, hbar⟩ := hrel; have HLEN := Hd hlen; have HSZ := Hd hsz; have HOWN := Hd hown; have HCUR := Hd hcur; have HBAR := Hd hbar; clear hlen hsz hown hcur hbar
  by_cases hlt : k < 12
  ·have z1 : decide ((k : Int) < 12) = true := decide_eq_true (by omega); have z2 : decide ((k : Int) < 40) = true := decide_eq_true (by omega)
   go_wp2_with fail
   refine (pick_any g N kc 3 _ HCUR.o (by omega) (by decide) (by decide)).mono ?_; rintro e w3 ⟨r3, k3, rfl, hr3, hk3, hc, hb⟩; have HC3 := Hd hc; have HB3 : Hid (Bar g W0 w3) := HBAR.o.trans hb; have HO3 := Hd (own_bar HOWN.o hb hgN); clear hc hb
   by_cases h0 : r3 = 0
   ·have z3 : ((r3 : Int) == 0) = true := by rw [beq_iff_eq]; omega
    clear h0
    go_wp2_with fail
    refine (pick_any g N k3 5 _ HC3.o (by omega) (by decide) (by decide)).mono ?_; rintro e w4 ⟨r4, k4, rfl, hr4, hk4, hc, hb⟩; have HC4 := Hd hc; have HB4 : Hid (Bar g W0 w4) := HB3.o.trans hb; have HO4 := Hd (own_bar HO3.o hb hgN); clear hc hb
    go_wp2_with fail
    refine (pick_any g N k4 17 _ HC4.o (by omega) (by decide) (by decide)).mono ?_; rintro e wp1 ⟨r10, k10, rfl, hr10, hk10, hc, hb⟩; have HC5 := Hd hc; have HB5 : Hid (Bar g W0 wp1) := HB4.o.trans hb; have HO5 := Hd (own_bar HO4.o hb hgN); clear hc hb
    go_wp2_with fail
    refine (l1Small_any ((r10 : Int) - 8) _ (by omega) (by omega)).mono ?_; rintro e wp2 ⟨z1, rfl, hz, hb⟩; have HZ1 := Hd (hz.mono' (B' := 0) (n' := 1000) (Nat.zero_le _) (by decide)); have HC6 := Hd (HC5.o.below (hb.mono HC5.o.2.1)); have HB6 : Hid (Bar g W0 wp2) := HB5.o.trans (Bar.of hb); have HO6 := Hd (own_below HO5.o hb); clear hz hb
    go_wp2_with fail
    refine (l1Small_any (1 + (r4 : Int)) _ (by omega) (by omega)).mono ?_; rintro e wp3 ⟨z2, rfl, hz, hb⟩; have HZ2 := Hd (hz.mono' (B' := 0) (n' := 1000) (Nat.zero_le _) (by decide)); have HZ3 := Hd (HZ1.o.below hb); have HC7 := Hd (HC6.o.below (hb.mono HC6.o.2.1)); have HB7 : Hid (Bar g W0 wp3) := HB6.o.trans (Bar.of hb); have HO7 := Hd (own_below HO6.o hb); clear hz hb
    go_wp2_with fail
    refine (l2Make_any 0 _ _ ((r10 : Int) - 8) (1 + (r4 : Int)) _ (Nat.zero_le _) HZ3.o HZ2.o (by omega)).mono ?_; rintro e wp4 ⟨z3, px, qx, rfl, hq, hlow, hb⟩; have HQ := Hd hq; have HBD := Hd (low_bd (k := 600) hlow (lb_le 1 600 (by decide) (by unfold lb; omega)) (lb_le 1 600 (by decide) (by unfold lb; omega))); have HC8 := Hd (HC7.o.below (hb.mono HC7.o.2.1)); have HB8 : Hid (Bar g W0 wp4) := HB7.o.trans (Bar.of hb); have HO8 := Hd (own_below HO7.o hb); clear hq hlow hb
    go_wp2_with fail
    refine (l2TextS_any 0 z3 px qx _ (Nat.zero_le _) HQ.o HBD.o.1 HBD.o.2).mono ?_; rintro e wp5 ⟨u6, rfl, hu, hb⟩; have HU6 := Hd hu; have HC9 := Hd (HC8.o.below (hb.mono HC8.o.2.1)); have HB9 : Hid (Bar g W0 wp5) := HB8.o.trans (Bar.of hb); have hown := own_below HO8.o hb; have hNx : N ≤ wp5.heap.size := HC9.o.2.1; clear hu hb
    go_wp2_with (at_builtin; refine wpList_append_own_at _ rfl _ _ 36 rfl N 9 i0 (.string ⟨#[]⟩) 1 16 Tryz.underlying36 hinf hz0 hz1 hz2 rfl (by decide) u8 k _ rfl (hown.alloc _) ⟨wp5.heap.size, 0, none⟩ 1 1 [.string u6] rfl rfl ?c1 ?c2 ?c3 ?c4 ?c5 ?_)
    case c1 =>
     intro j u hj
     match j, hj with
     | 0, hj => simp at hj; subst hj; simp [Addr.add]
    case c2 => intro u hu; simp at hu; subst hu; rfl
    case c3 => unfold maxLen; omega
    case c4 => omega
    case c5 => simp; omega
    intro v' w1 hown' hgr _ _; have hB1 : Below N wp5 w1 := ((Below.refl _ wp5).alloc hNx _).grown hgr (by simp; omega) (fun k e => (hown.lt k e).1); have HREL : Hid (NumInv g N W0 v' (.int .i64 ((k : Int) + 1)) w1) := by
     refine ⟨k + 1, k10, us ++ [u6], by omega, rfl, by rw [List.length_append, HLEN.o]; rfl, ?_, ?_, by omega, HC9.o.below hB1, HB9.o.then (by rw [HWN.o]; exact hB1)⟩
     ·intro u hu
      rcases List.mem_append.1 hu with h | h
      ·exact HSZ.o u h
      ·simp at h; subst h; have := HU6.o; omega
     ·simpa using hown'
    clear hown hown' hgr hB1
    go_wp2
    go_roundw
    case rel => exact HREL.o
    case measure => simp [intOf]; omega
   ·have z3 : ((r3 : Int) == 0) = false := by rw [beq_eq_false_iff_ne]; omega
    clear h0
    go_wp2_with fail
    refine (pick_any g N k3 17 _ HC3.o (by omega) (by decide) (by decide)).mono ?_; rintro e wp1 ⟨r10, k10, rfl, hr10, hk10, hc, hb⟩; have HC5 := Hd hc; have HB5 : Hid (Bar g W0 wp1) := HB3.o.trans hb; have HO5 := Hd (own_bar HO3.o hb hgN); clear hc hb
    go_wp2_with fail
    refine (l1Small_any ((r10 : Int) - 8) _ (by omega) (by omega)).mono ?_; rintro e wp2 ⟨z1, rfl, hz, hb⟩; have HZ1 := Hd (hz.mono' (B' := 0) (n' := 1000) (Nat.zero_le _) (by decide)); have HC6 := Hd (HC5.o.below (hb.mono HC5.o.2.1)); have HB6 : Hid (Bar g W0 wp2) := HB5.o.trans (Bar.of hb); have HO6 := Hd (own_below HO5.o hb); clear hz hb
    go_wp2_with fail
    refine (l1Small_any (1 : Int) _ (by omega) (by omega)).mono ?_; rintro e wp3 ⟨z2, rfl, hz, hb⟩; have HZ2 := Hd (hz.mono' (B' := 0) (n' := 1000) (Nat.zero_le _) (by decide)); have HZ3 := Hd (HZ1.o.below hb); have HC7 := Hd (HC6.o.below (hb.mono HC6.o.2.1)); have HB7 : Hid (Bar g W0 wp3) := HB6.o.trans (Bar.of hb); have HO7 := Hd (own_below HO6.o hb); clear hz hb
    go_wp2_with fail
    refine (l2Make_any 0 _ _ ((r10 : Int) - 8) (1 : Int) _ (Nat.zero_le _) HZ3.o HZ2.o (by omega)).mono ?_; rintro e wp4 ⟨z3, px, qx, rfl, hq, hlow, hb⟩; have HQ := Hd hq; have HBD := Hd (low_bd (k := 600) hlow (lb_le 1 600 (by decide) (by unfold lb; omega)) (lb_le 1 600 (by decide) (by unfold lb; omega))); have HC8 := Hd (HC7.o.below (hb.mono HC7.o.2.1)); have HB8 : Hid (Bar g W0 wp4) := HB7.o.trans (Bar.of hb); have HO8 := Hd (own_below HO7.o hb); clear hq hlow hb
    go_wp2_with fail
    refine (l2TextS_any 0 z3 px qx _ (Nat.zero_le _) HQ.o HBD.o.1 HBD.o.2).mono ?_; rintro e wp5 ⟨u6, rfl, hu, hb⟩; have HU6 := Hd hu; have HC9 := Hd (HC8.o.below (hb.mono HC8.o.2.1)); have HB9 : Hid (Bar g W0 wp5) := HB8.o.trans (Bar.of hb); have hown := own_below HO8.o hb; have hNx : N ≤ wp5.heap.size := HC9.o.2.1; clear hu hb
    go_wp2_with (at_builtin; refine wpList_append_own_at _ rfl _ _ 36 rfl N 9 i0 (.string ⟨#[]⟩) 1 16 Tryz.underlying36 hinf hz0 hz1 hz2 rfl (by decide) u8 k _ rfl (hown.alloc _) ⟨wp5.heap.size, 0, none⟩ 1 1 [.string u6] rfl rfl ?c1 ?c2 ?c3 ?c4 ?c5 ?_)
    case c1 =>
     intro j u hj
     match j, hj with
     | 0, hj => simp at hj; subst hj; simp [Addr.add]
    case c2 => intro u hu; simp at hu; subst hu; rfl
    case c3 => unfold maxLen; omega
    case c4 => omega
    case c5 => simp; omega
    intro v' w1 hown' hgr _ _; have hB1 : Below N wp5 w1 := ((Below.refl _ wp5).alloc hNx _).grown hgr (by simp; omega) (fun k e => (hown.lt k e).1); have HREL : Hid (NumInv g N W0 v' (.int .i64 ((k : Int) + 1)) w1) := by
     refine ⟨k + 1, k10, us ++ [u6], by omega, rfl, by rw [List.length_append, HLEN.o]; rfl, ?_, ?_, by omega, HC9.o.below hB1, HB9.o.then (by rw [HWN.o]; exact hB1)⟩
     ·intro u hu
      rcases List.mem_append.1 hu with h | h
      ·exact HSZ.o u h
      ·simp at h; subst h; have := HU6.o; omega
     ·simpa using hown'
    clear hown hown' hgr hB1
    go_wp2
    go_roundw
    case rel => exact HREL.o
    case measure => simp [intOf]; omega
  ·obtain rfl : k = 12 := by omega
   go_wp2
   go_ret
   refine ⟨_, us, rfl, by rw [HLEN.o]; decide, HSZ.o, by rw [HLEN.o]; exact World.ownsRow.mono HOWN.o (Nat.zero_le _), ?_⟩; exact HB0.o.trans (HBAR.o.below (Nat.le_of_eq HGW.o) (by have := HB0.o.size; exact this))
theorem textR_size {p q : Int} {u : ByteArray} (h : TextR p q u) : u.size ≤ 6000 := by
 unfold TextR at h
 split at h
 ·have := text_size h; omega
 obtain ⟨p, q, h1, h2, rfl⟩ := h; have g1 := text_size h1; have g2 := text_size h2
 split
 ·exact Nat.zero_le _
 have e : (p ++ ⟨#[47]⟩ ++ q).size = p.size + 1 + q.size := by rw [ByteArray.size_append, ByteArray.size_append]; rfl
 omega
theorem resS_size {h1 o1 : Bool} {t1 : ByteArray} {h2 o2 : Bool} {t2 u : ByteArray} (h : ResS h1 o1 t1 h2 o2 t2 u) : u.size ≤ 6000 := by
 obtain ⟨k1, k2, _, _, h⟩ := h
 rcases h with ⟨x1, y1, x2, y2, _, _, ⟨_, p, q, _, h⟩ | ⟨_, rfl⟩⟩ | ⟨_, rfl⟩
 ·exact textR_size h
 ·exact Nat.zero_le _
 exact Nat.zero_le _
theorem row_view {W : World} {e : TypeId} {v : Value} {us : List ByteArray} (h : W.ownsRow 0 e 1 v us.length (us.map Value.string)) (hs : ∀ u ∈ us, u.size ≤ 14000) (hm : us.length ≤ 12) :
 ∃ (ra : Option Addr) (m rc : Nat), v = .slice ra m rc ∧ m ≤ 12 ∧ m ≤ rc ∧ rc ≤ maxLen ∧ ∀ k, k < m → ∃ (g : Nat) (x : ByteArray), ra = some ⟨g, 0, none⟩ ∧ g < W.heap.size ∧ x.size ≤ 14000 ∧ W.cell? ⟨g, k, none⟩ = some (.string x) := by
 have h' := h
 rcases h.2 with ⟨rfl, h0⟩ | ⟨g, cap, cur, rfl, _, hg, hc, hcm, _, _⟩
 ·exact ⟨none, 0, 0, rfl, Nat.zero_le _, leR, Nat.zero_le _, fun k hk => absurd hk (Nat.not_lt_zero _)⟩
 refine ⟨some ⟨g, 0, none⟩, us.length, cap, rfl, hm, hc, hcm, fun k hk => ?_⟩; have e1 : W.cell? ⟨g, k, none⟩ = some (.string us[k]) := by
  rw [World.ownsRow.cellAt h' k (by omega)]; simp [hk]
 exact ⟨g, us[k], rfl, World.block_lt_of_cell? W ⟨g, k, none⟩ e1, hs _ (List.getElem_mem _), e1⟩
set_option maxRecDepth 100000 in
set_option maxHeartbeats 8000000 in
theorem fnSimplest_any (a : Option Addr) (n cap : Nat) (a2 : Option Addr) (n2 cap2 : Nat) (w : World) (hA : CodeArg w a n cap) (hB : CodeArg w a2 n2 cap2) (h : LT w ∧ SP w ∧ NS w) :
 Calls Tryz.prog 4 #[.slice a n cap, .slice a2 n2 cap2] w fun e w' => e = .returned (.bool true) ∧ Up w w' := by
 have hcap := hA.2.1; have hn := hA.1; have hcap2 := hB.2.1; have hn2 := hB.1; unfold maxLen at hcap hcap2; have HA := Hd hA; have HB := Hd hB; have HS := Hd h; clear hA hB h
 by_cases c : 1048576 < n
 ·have z : decide (1048576 < (n : Int)) = true := by rw [decide_eq_true_iff]; omega
  go_enter Tryz.func4, Tryz.ntmps4
  go_wp2
  go_ret
  exact ⟨rfl, Below.refl _ _⟩
 have z : decide (1048576 < (n : Int)) = false := by rw [decide_eq_false_iff_not]; omega
 clear c
 by_cases c : 1048576 < n2
 ·have z2 : decide (1048576 < (n2 : Int)) = true := by rw [decide_eq_true_iff]; omega
  go_enter Tryz.func4, Tryz.ntmps4
  go_wp2
  go_ret
  exact ⟨rfl, Below.refl _ _⟩
 have z2 : decide (1048576 < (n2 : Int)) = false := by rw [decide_eq_false_iff_not]; omega
 clear c
 go_enter Tryz.func4, Tryz.ntmps4
 go_wp2_with fail
 refine (drawSimplest_any a n cap _ HA.o).mono ?_; rintro e w1 ⟨h1, o1, t1, h2, o2, t2, rfl, ht1, ht2, hb1⟩; have HB1 := Hd hb1; have hl1 : t1.size ≤ maxLen := max_of ht1 (by decide); have hl2 : t2.size ≤ maxLen := max_of ht2 (by decide); obtain ⟨k1_, hk1⟩ := isCut_ex t1; obtain ⟨k2_, hk2⟩ := isCut_ex t2; have HK1 := Hd hk1; have HK2 := Hd hk2; clear hb1 ht1 ht2 hk1 hk2
 go_upto_region 4 with fail
 obtain ⟨W0, hW0⟩ := exW ((w1.alloc (.cells #[.bool h1, .bool o1, .string t1] 31)).alloc (.cells #[.bool h2, .bool o2, .string t2] 31)); rw [hW0]; have HB0 : Hid (Up w W0) := by unfold Hid; rw [← hW0]; exact below_al (below_al HB1.o _) _
 have hx0_0 : Bx W0 (w1.heap.size) [.bool h1, .bool o1, .string t1] := by
  rw [← hW0]; exact (bx_new w1 _ _).alloc _
 have hx0_1 : Bx W0 (w1.heap.size + 1) [.bool h2, .bool o2, .string t2] := by
  rw [← hW0]; have h := bx_new (w1.alloc (.cells #[.bool h1, .bool o1, .string t1] 31)) [.bool h2, .bool o2, .string t2] 31; rw [World.size_alloc] at h; exact h
 have HX0 : Hid (∀ W, Up W0 W → Bx W (w1.heap.size) [.bool h1, .bool o1, .string t1] ∧ Bx W (w1.heap.size + 1) [.bool h2, .bool o2, .string t2]) := fun W hW => ⟨hx0_0.below hx0_0.lt hW, hx0_1.below hx0_1.lt hW⟩; clear hW0 hx0_0 hx0_1; have hxk := HX0.o W0 (Below.refl _ _); obtain ⟨k0, k1, k2⟩ := hxk.1.c3; obtain ⟨j0, j1, j2⟩ := hxk.2.c3; clear hxk
 go_wp2_with fail
 refine (implSimplest_any h1 o1 t1 h2 o2 t2 _ hl1 hl2 (HS.o.2.1.below HB0.o) (HS.o.2.2.below HB0.o) (HS.o.1.below HB0.o)).mono ?_; rintro e w2 ⟨s, rfl, hs, hb2⟩; have HRS := Hd hs; have hsl : s.size ≤ maxLen := max_of (resS_size hs) (by decide); have HLAW := Hd (simplest_law hs HK1.o HK2.o); have HA2 := Hd hb2; clear hs hb2 k0 k1 k2 j0 j1 j2; have hxk := HX0.o w2 HA2.o; obtain ⟨k0, k1, k2⟩ := hxk.1.c3; obtain ⟨j0, j1, j2⟩ := hxk.2.c3; clear hxk
 go_wp2_with fail
 refine (specSimplest_any h1 o1 t1 h2 o2 t2 _ hl1 hl2).mono ?_; rintro e w3 ⟨s', rfl, hs', hb3⟩; obtain rfl : s = s' := HRS.o.eq hs'; have HA3 : Hid (Up W0 w3) := HA2.o.trans (hb3.mono HA2.o.size); have HE3 : Hid (Up w w3) := HB0.o.trans (HA3.o.mono HB0.o.size); clear hs' hb3 k0 k1 k2 j0 j1 j2
 by_cases h0 : s.size = 0
 ·have hz : s.toList.isEmpty = true := by rw [empty_iff, decide_eq_true h0]
  have HE0 : Hid (s = strB []) := Classical.byContradiction fun hn => size_ne.1 hn h0; clear h0
  go_wp2_with fail
  refine (numbersL_any a2 n2 cap2 _ (HB.o.below HE3.o)).mono ?_; rintro e w5 ⟨v, us, rfl, hm, hus, hown, hb5⟩; have HA5 : Hid (Up W0 w5) := HA3.o.trans (hb5.mono HA3.o.size); obtain ⟨ra, m, rc, rfl, hm12, hmc, hcm, hrow⟩ := row_view hown hus hm; have HROW := Hd hrow; clear hb5 hm hus hown hrow; unfold maxLen at hcm
  go_wp2_with fail
  go_loopw [47] (fun iv W => ∃ k : Nat, k ≤ m ∧ iv = .int .i64 (k : Nat) ∧ Up w5 W) (fun iv _ => m - (intOf iv).toNat)
  case atStart => exact ⟨0, Nat.zero_le _, rfl, Below.refl _ _⟩
  case round =>
   obtain ⟨k, hk, rfl, hbw⟩ := hrel; have HBW := Hd hbw; have HAW : Hid (Up W0 wr) := HA5.o.trans (hbw.mono HA5.o.size); clear hbw
   by_cases hlt : k < m
   ·have zk : decide ((k : Int) < (m : Int)) = true := decide_eq_true (by omega); obtain ⟨g, x, hra, hg, hxs, hc5⟩ := HROW.o k hlt; subst hra; have hcx := (HBW.o.cell (p := ⟨g, k, none⟩) hg).trans hc5; have hxl : x.size ≤ maxLen := max_of hxs (by decide); obtain ⟨kx, hkx⟩ := isCut_ex x; have HKX := Hd hkx; clear hc5 hxs hkx hg; have hxk := HX0.o wr HAW.o; obtain ⟨k0, k1, k2⟩ := hxk.1.c3; obtain ⟨j0, j1, j2⟩ := hxk.2.c3; clear hxk
    go_wp2_with fail
    refine (between_any h1 o1 t1 h2 o2 t2 x k1_ k2_ kx _ hl1 hl2 hxl HK1.o HK2.o HKX.o).mono ?_; rintro e w6 ⟨b6, rfl, hiff, hb6⟩; have HB6 : Hid (Up w5 w6) := HBW.o.trans (hb6.mono HBW.o.size); clear hb6 hcx; clear k0 k1 k2 j0 j1 j2
    cases b6 with
    | false =>
      clear hiff
      go_wp2
      go_roundw
      case rel => exact ⟨k + 1, by omega, rfl, HB6.o⟩
      case measure => simp [intOf]; omega
    | true =>
      have HBT := Hd (hiff.1 rfl); clear hiff; exact absurd HE0.o (HLAW.o.2 x kx HBT.o).1
   ·have zk : decide ((k : Int) < (m : Int)) = false := decide_eq_false (by omega)
    go_wp2
    go_ret
    exact ⟨rfl, HB0.o.trans (HAW.o.mono HB0.o.size)⟩
 have hz : s.toList.isEmpty = false := by rw [empty_iff, decide_eq_false h0]
 have HNE := Hd (size_ne.2 h0); obtain ⟨ks, hks⟩ := isCut_ex s; have HKS := Hd hks; clear h0 hks; have hxk := HX0.o w3 HA3.o; obtain ⟨k0, k1, k2⟩ := hxk.1.c3; obtain ⟨j0, j1, j2⟩ := hxk.2.c3; clear hxk
 go_wp2_with fail
 refine (between_any h1 o1 t1 h2 o2 t2 s k1_ k2_ ks _ hl1 hl2 hsl HK1.o HK2.o HKS.o).mono ?_; rintro e w4 ⟨b4, rfl, hiff, hb4⟩; obtain rfl : b4 = true := hiff.2 (HLAW.o.1 ks HKS.o HNE.o); have HA4 : Hid (Up W0 w4) := HA3.o.trans (hb4.mono HA3.o.size); have HE4 : Hid (Up w w4) := HB0.o.trans (HA4.o.mono HB0.o.size); clear hiff hb4 k0 k1 k2 j0 j1 j2
 go_wp2_with fail
 refine (numbersL_any a2 n2 cap2 _ (HB.o.below HE4.o)).mono ?_; rintro e w5 ⟨v, us, rfl, hm, hus, hown, hb5⟩; have HA5 : Hid (Up W0 w5) := HA4.o.trans (hb5.mono HA4.o.size); obtain ⟨ra, m, rc, rfl, hm12, hmc, hcm, hrow⟩ := row_view hown hus hm; have HROW := Hd hrow; clear hb5 hm hus hown hrow; unfold maxLen at hcm
 go_wp2_with fail
 go_loopw [47] (fun iv W => ∃ k : Nat, k ≤ m ∧ iv = .int .i64 (k : Nat) ∧ Up w5 W) (fun iv _ => m - (intOf iv).toNat)
 case atStart => exact ⟨0, Nat.zero_le _, rfl, Below.refl _ _⟩
 case round =>
  obtain ⟨k, hk, rfl, hbw⟩ := hrel; have HBW := Hd hbw; have HAW : Hid (Up W0 wr) := HA5.o.trans (hbw.mono HA5.o.size); clear hbw
  by_cases hlt : k < m
  ·have zk : decide ((k : Int) < (m : Int)) = true := decide_eq_true (by omega); obtain ⟨g, x, hra, hg, hxs, hc5⟩ := HROW.o k hlt; subst hra; have hcx := (HBW.o.cell (p := ⟨g, k, none⟩) hg).trans hc5; have hxl : x.size ≤ maxLen := max_of hxs (by decide); obtain ⟨kx, hkx⟩ := isCut_ex x; have HKX := Hd hkx; clear hc5 hxs hkx hg; have hxk := HX0.o wr HAW.o; obtain ⟨k0, k1, k2⟩ := hxk.1.c3; obtain ⟨j0, j1, j2⟩ := hxk.2.c3; clear hxk
   go_wp2_with fail
   refine (between_any h1 o1 t1 h2 o2 t2 x k1_ k2_ kx _ hl1 hl2 hxl HK1.o HK2.o HKX.o).mono ?_; rintro e w6 ⟨b6, rfl, hiff, hb6⟩; have HB6 : Hid (Up w5 w6) := HBW.o.trans (hb6.mono HBW.o.size); clear hb6 hcx; clear k0 k1 k2 j0 j1 j2
   cases b6 with
   | false =>
     clear hiff
     go_wp2
     go_roundw
     case rel => exact ⟨k + 1, by omega, rfl, HB6.o⟩
     case measure => simp [intOf]; omega
   | true =>
     have HBT := Hd (hiff.1 rfl); clear hiff
     go_wp2_with fail
     refine (simpler_any x s kx ks _ hxl hsl HKX.o HKS.o).mono ?_; rintro e w7 ⟨b7, rfl, himp, hb7⟩; have HB7 : Hid (Up w5 w7) := HB6.o.trans (hb7.mono HB6.o.size); clear hb7; obtain rfl : b7 = false := by
      cases b7 with
      | false => rfl
      | true =>
        obtain ⟨x1, y1, p1, q1, hv1, hv2, hless⟩ := himp rfl; exact absurd hless ((HLAW.o.2 x kx HBT.o).2 ks x1 y1 p1 q1 HKS.o hv1 hv2)
     clear himp
     go_wp2
     go_roundw
     case rel => exact ⟨k + 1, by omega, rfl, HB7.o⟩
     case measure => simp [intOf]; omega
  ·have zk : decide ((k : Int) < (m : Int)) = false := decide_eq_false (by omega)
   go_wp2
   go_ret
   exact ⟨rfl, HB0.o.trans (HAW.o.mono HB0.o.size)⟩
end Go.Proofs.YtfmpapcfhoomkaaGreatDoor
namespace Go.Proofs.YtfmpapcfhoomkaaGreatDoor.fnSimplest
open Go.ChangeShapes Go.WideShapes Go.ChangeAt Go.RowKit
open Go.ChangeMaps (open_string shut_string)
set_option linter.unusedVariables false
theorem own : ownKnob Tryz.prog.godebug = none := by kernel_rfl
theorem laidOut : laidOutB Tryz.prog = true := by kernel_rfl
theorem code_arg {H : Type} {enc : TypeId × Value → H} {W : World} {a0 : Option Addr} {len0 cap0 : Nat} {d : DataW H} {p : List MemPlace} (h0 : DataW.Trod enc Tryz.prog W 0 (fun _ => true) true 22 (.slice a0 len0 cap0) d p) : CodeArg W a0 len0 cap0 := by
 obtain ⟨fuel, hf⟩ := h0
 rcases open_ints Tryz.underlying22 Tryz.underlying5 (by kernel_rfl) hf with ⟨hcs, _⟩ | ⟨x, l, c, zs, hcs, _, hl, hm, hz, _, hcell, hwz⟩
 ·simp [Value.cells] at hcs; obtain ⟨rfl, rfl, rfl⟩ := hcs; exact ⟨leR, Nat.zero_le _, fun i hi => absurd hi (Nat.not_lt_zero _)⟩
 simp [Value.cells] at hcs; obtain ⟨rfl, rfl, rfl⟩ := hcs; have hzl : zs.length = cap0 := by simpa using hz
 refine ⟨hl, hm, fun i hi => ?_⟩; obtain ⟨b, off, rfl, hc⟩ := ints_at hcell (by omega); have hci := hc i (by omega); have hmem : zs.getD i 0 ∈ zs := by
  rw [List.getD_eq_getElem?_getD, List.getElem?_eq_getElem (by omega)]; exact List.getElem_mem _
 have hbd := bounds_u8 (hwz _ hmem); refine ⟨b, off, (zs.getD i 0).toNat, rfl, World.block_lt_of_cell? W ⟨b, off + i, none⟩ hci, by omega, ?_⟩; rw [hci]; have : ((zs.getD i 0).toNat : Int) = zs.getD i 0 := Int.toNat_of_nonneg hbd.1; rw [this]
set_option maxRecDepth 100000 in
theorem lifted (os : Os) (started : os.Started) (H : Type) (enc : TypeId × Value → H) :
 ReturnsInHanded {} Tryz.checked os 4 .any (fun w args => (Rows.fnSimplestSpec.pre enc Tryz.prog Tryz.f4 [] false w args ∧ laidMetH Tryz.prog Rows.fnSimplestRow.laid w) ∧ sizedMet enc Tryz.prog Tryz.f4 (OpenSpec.ofChange Rows.fnSimplestSpec) false w args)
  (Rows.fnSimplestSpec.post enc Tryz.prog Tryz.f4 false true false false) := by
 refine returnsInHanded_of_change_and (C := Tryz.checked) (X := fun w _ => laidMetH Tryz.prog Rows.fnSimplestRow.laid w) (fun _ _ _ hh h => h.of_heap hh) own started (by kernel_rfl) Tryz.func4
  (ChangeSpec.witness_shaped (enc := enc) (C := Tryz.checked) (os := os) (X := fun w _ => laidMetH Tryz.prog Rows.fnSimplestRow.laid w) false (World.laidAll Tryz.prog os Rows.fnSimplestRow.laid) #[.slice none 0 0, .slice none 0 0] 8 (World.laidAll_os _ _ _)
    (World.shaped_of_ZipB (by kernel_rfl) (by kernel_rfl)) (by kernel_rfl) (by kernel_rfl) (by kernel_rfl)
    (by rw [MakeChecks.laidMetH_plain _ _ _ (by kernel_rfl)]; exact laidMet_laidAll _ (by kernel_rfl) (by kernel_rfl))) ?_
 intro W base args ds gs before hval0 hW _ _ hL _; have hval : ∀ (j : Nat) t v, Tryz.f4.params[j]? = some t → args[j]? = some v → Value.okWide Tryz.prog W .any base t v := hval0; have hW' := hW; obtain ⟨p, q, hA0, hV, rfl, hfz, hnd⟩ := hW; have hA : DataW.TrodAll enc Tryz.prog W 0 (fun _ => true) true Tryz.f4.params.toList args.toList ds p := hA0; rw [Tryz.params4] at hA hval; obtain ⟨v0, vs0, d0, ds0, p0, q0, hargs, rfl, rfl, h0, r0⟩ := trodAll_cons hA; obtain ⟨v1, vs1, d1, ds1, p1, q1, rfl, rfl, rfl, h1, r1⟩ := trodAll_cons r0; obtain ⟨rfl, rfl, rfl⟩ := trodAll_nil r1; obtain rfl : args = #[v0, v1] := by cases args; simp_all
 obtain ⟨g, t, cs, fuel, d, p', g2, t2, cs2, fuel2, d2, p2, g3, t3, cs3, fuel3, d3, p3, rfl, hg, ht, hvar, hd, hg2, ht2, hvar2, hd2, hg3, ht3, hvar3, hd3, rfl⟩ := trodVars_three hV; have k0 := h0; have k1 := h1; have lt0 : ∀ x ∈ p0, x.block < W.heap.size := by obtain ⟨m, hm⟩ := k0; exact DataW.trod_lt m _ _ _ hm
 have lt1 : ∀ x ∈ p1, x.block < W.heap.size := by obtain ⟨m, hm⟩ := k1; exact DataW.trod_lt m _ _ _ hm
 obtain ⟨a0, len0, cap0, rfl⟩ := okWide_slice Tryz.underlying22 (hval 0 22 v0 rfl rfl); obtain ⟨a1, len1, cap1, rfl⟩ := okWide_slice Tryz.underlying22 (hval 1 22 v1 rfl rfl); have w0 := code_arg h0; have w1 := code_arg h1; rw [MakeChecks.laidMetH_plain _ _ _ (by kernel_rfl)] at hL; have hsp : LT W ∧ SP W ∧ NS W := all3_of_laid hL; clear hA0 hval0; refine (fnSimplest_any a0 len0 cap0 a1 len1 cap1 W w0 w1 hsp).mono fun e W' ⟨he, bel⟩ => ?_; subst he; have hlt1 : 2 < W.heap.size := cell_lt hsp.2.2.1; have hlt2 : 0 < W.heap.size := cell_lt hsp.2.1.1.1; have hlt3 : 1 < W.heap.size := block_lt hsp.1; obtain rfl := Option.some.inj (gSteps.symm.trans hg); obtain rfl := Option.some.inj (tSteps.symm.trans ht); obtain rfl := Option.some.inj (gSigns.symm.trans hg2); obtain rfl := Option.some.inj (tSigns.symm.trans ht2); obtain rfl := Option.some.inj (gTens.symm.trans hg3); obtain rfl := Option.some.inj (tTens.symm.trans ht3); have hdx0 : DataW.trod enc Tryz.prog W 0 (fun _ => true) true fuel 157 cs.toList = some (d, p') := hd; have hvx0 : W.var? Tryz.prog "loop.example/g00007/impl.noSteps" = some cs := hvar; have hltx0 : ∀ x ∈ p', x.block < W.heap.size := DataW.trod_lt fuel _ _ _ hdx0; obtain ⟨fl0, hq0⟩ := Below.trod laidOut (by kernel_rfl) (of_decide_eq_true (by kernel_rfl)) (v := .agg cs) (⟨fuel, by simpa [Value.cells] using hdx0⟩ : DataW.Trod enc Tryz.prog W 0 (fun _ => true) true 157 (.agg cs) d p') bel hltx0; have hz0 : DataW.trod enc Tryz.prog W' 0 (fun b => decide (b < W.heap.size)) true fl0 157 cs.toList = some (d, p') := by simpa [Value.cells] using hq0
 have hdx1 : DataW.trod enc Tryz.prog W 0 (fun _ => true) true fuel2 139 cs2.toList = some (d2, p2) := hd2; have hvx1 : W.var? Tryz.prog "loop.example/g00007/impl.signPairs" = some cs2 := hvar2; have hltx1 : ∀ x ∈ p2, x.block < W.heap.size := DataW.trod_lt fuel2 _ _ _ hdx1; obtain ⟨fl1, hq1⟩ := Below.trod laidOut (by kernel_rfl) (of_decide_eq_true (by kernel_rfl)) (v := .agg cs2) (⟨fuel2, by simpa [Value.cells] using hdx1⟩ : DataW.Trod enc Tryz.prog W 0 (fun _ => true) true 139 (.agg cs2) d2 p2) bel hltx1; have hz1 : DataW.trod enc Tryz.prog W' 0 (fun b => decide (b < W.heap.size)) true fl1 139 cs2.toList = some (d2, p2) := by simpa [Value.cells] using hq1
 have hdx2 : DataW.trod enc Tryz.prog W 0 (fun _ => true) true fuel3 144 cs3.toList = some (d3, p3) := hd3; have hvx2 : W.var? Tryz.prog "loop.example/g00007/impl.limbTens" = some cs3 := hvar3; have hltx2 : ∀ x ∈ p3, x.block < W.heap.size := DataW.trod_lt fuel3 _ _ _ hdx2; obtain ⟨fl2, hq2⟩ := Below.trod laidOut (by kernel_rfl) (of_decide_eq_true (by kernel_rfl)) (v := .agg cs3) (⟨fuel3, by simpa [Value.cells] using hdx2⟩ : DataW.Trod enc Tryz.prog W 0 (fun _ => true) true 144 (.agg cs3) d3 p3) bel hltx2; have hz2 : DataW.trod enc Tryz.prog W' 0 (fun b => decide (b < W.heap.size)) true fl2 144 cs3.toList = some (d3, p3) := by simpa [Value.cells] using hq2
 have hv3 := trodVars_mk1 (enc := enc) (spare := fun b => decide (b < W.heap.size)) gTens tTens (var?_below bel gTens hlt3 hvx2) hz2; have hv2 : DataW.TrodVars enc Tryz.prog W' (fun b => decide (b < W.heap.size)) ["loop.example/g00007/impl.signPairs", "loop.example/g00007/impl.limbTens"] [d2, d3] (MemPlace.row ⟨0, 0, none⟩ cs2.size ++ p2 ++ (MemPlace.row ⟨1, 0, none⟩ cs3.size ++ p3)) :=
  ⟨_, _, cs2, fl1, p2, _, gSigns, tSigns, var?_below bel gSigns hlt2 hvx1, hz1, hv3, rfl⟩
 have hv' : DataW.TrodVars enc Tryz.prog W' (fun b => decide (b < W.heap.size)) ["loop.example/g00007/impl.noSteps", "loop.example/g00007/impl.signPairs", "loop.example/g00007/impl.limbTens"] [d, d2, d3] (MemPlace.row ⟨2, 0, none⟩ cs.size ++ p' ++ (MemPlace.row ⟨0, 0, none⟩ cs2.size ++ p2 ++ (MemPlace.row ⟨1, 0, none⟩ cs3.size ++ p3))) :=
  ⟨_, _, cs, fl0, p', _, gSteps, tSteps, var?_below bel gSteps hlt1 hvx0, hz0, hv2, rfl⟩
 exact ⟨_, rfl, _, _, _, [], _, _, hW', trodAll_mk1 (shut_bool Tryz.underlying4 _), (trodAll_cons_mk (Below.trod laidOut (by kernel_rfl) (of_decide_eq_true (by kernel_rfl)) k0 bel lt0) (trodAll_cons_mk (Below.trod laidOut (by kernel_rfl) (of_decide_eq_true (by kernel_rfl)) k1 bel lt1) trodAll_mk0)), hv', bel.frame _, fun h => by cases h⟩
theorem over : Rows.fnSimplestRow.holds Tryz.pinned (OpenSpec.ofChange Rows.fnSimplestSpec) :=
 OpenClaim.holds_of_wide 4 Tryz.f4 rfl rfl rfl rfl rfl rfl rfl ⟨rfl, rfl, rfl, rfl, rfl⟩ rfl rfl rfl rfl rfl (by kernel_rfl) Tryz.func4 (by kernel_rfl)
  (of_decide_eq_true (by kernel_rfl)) (by unfold Func.isWrapper; first | (rw [if_pos (by decide +kernel)]; kernel_rfl) | (rw [if_neg (by decide +kernel)]; exact ⟨rfl, rfl⟩))
  (fun os started H enc _ => lifted os started H enc)
theorem plain (f : FuncId) (fn : Func) (hf : Tryz.pinned.checked.prog.funcNamed "loop.example/g00007/laws.FnSimplest" = some f) (hfn : Tryz.pinned.checked.prog.funcs[f]? = some fn) :
 false = Tryz.pinned.checked.prog.looks [] ∧ ∀ (j : Nat) t, fn.params[j]? = some t → Tryz.pinned.checked.prog.wantsStandIn t = false := by
 obtain rfl : f = 4 := Option.some.inj ((show Tryz.prog.funcNamed "loop.example/g00007/laws.FnSimplest" = some 4 by kernel_rfl).symm.trans hf) |>.symm; obtain rfl : fn = Tryz.f4 := (Option.some.inj (Tryz.func4.symm.trans hfn)).symm; refine ⟨by kernel_rfl, fun j t ht => ?_⟩; rw [Tryz.params4] at ht; obtain rfl : t = 22 := by simpa using Array.mem_of_getElem? ht
 exact (show Tryz.prog.wantsStandIn 22 = false by kernel_rfl)
end Go.Proofs.YtfmpapcfhoomkaaGreatDoor.fnSimplest
namespace Go.Proofs.YtfmpapcfhoomkaaGreatDoor
theorem fnSimplest_holds : Rows.FnSimplestCardSaid :=
 Claim7.holds_tied_plain_at .later [] _ _ _ _ fnSimplest.over (fun _ h => by cases h) (by kernel_rfl) (fun _ h => by cases h) fnSimplest_row_tie rfl ⟨rfl, rfl⟩ (by kernel_rfl) rfl fnSimplest.plain (by kernel_rfl)
#print axioms fnSimplest_holds
end Go.Proofs.YtfmpapcfhoomkaaGreatDoor
