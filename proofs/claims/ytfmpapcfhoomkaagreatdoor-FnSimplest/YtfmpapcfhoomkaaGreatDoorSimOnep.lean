import Derived.Test.YtfmpapcfhoomkaaGreatDoorK1p
import Derived.Test.YtfmpapcfhoomkaaGreatDoorQIp
import Derived.Deep.DeepCutAuto
import Derived.Test.YtfmpapcfhoomkaaGreatDoorQQp
namespace Go.Proofs.YtfmpapcfhoomkaaGreatDoor
open Go.ChangeShapes Go.WideShapes Go.ChangeAt Go.RowKit
set_option maxRecDepth 100000 in
set_option maxHeartbeats 1000000 in
theorem floor_any (B : Nat) (z : Value) (x y : Int) (n : Nat) (w : World) (hBw : B ≤ w.heap.size) (h : IsQR B w z x y n) (hn : n ≤ 80000) (hy : y ≠ 0) (hSP : SP w) :
 Calls Tryz.prog 155 #[z] w fun e w' => ∃ r q t, e = .returned r ∧ IsI B w' r q (n + 2) ∧ IsDiv x y q t ∧ Up w w' := by
 obtain ⟨s1, p1, l1, c1, s2, p2, l2, c2, rfl, h1, h2⟩ := h.shape; have HSP := Hd hSP; have HBW := Hd hBw; have H1 := Hd h1; have H2 := Hd h2; clear h hSP hBw h1 h2; obtain ⟨W0, hW0⟩ := exW ((w.alloc (.cells #[.bool s1, .slice p1 l1 c1, .bool s2, .slice p2 l2 c2] 64)).alloc (.cells #[.bool false, .slice none 0 0] 46)); have HW0 := Hd hW0; have HB0 : Hid (Up w W0) := by
  unfold Hid
  rw [← hW0]; exact below_al (below_alloc _ _) _
 have hx1 : Bx W0 w.heap.size [.bool s1, .slice p1 l1 c1, .bool s2, .slice p2 l2 c2] := by rw [← hW0]; exact (bx_new w _ _).alloc _
 have hx2 : Bx W0 (w.heap.size + 1) [.bool false, .slice none 0 0] := by
  rw [← hW0]; have h := bx_new (w.alloc (.cells #[.bool s1, .slice p1 l1 c1, .bool s2, .slice p2 l2 c2] 64)) [.bool false, .slice none 0 0] 46; rw [World.size_alloc] at h; exact h
 have HX : Hid (∀ W, Up W0 W → Bx W (w.heap.size + 1) [.bool false, .slice none 0 0]) := fun W hW => hx2.below hx2.lt hW; clear hW0; obtain ⟨k0, k1, k2, k3⟩ := hx1.c4; clear hx1 hx2
 go_enter Tryz.func155, Tryz.ntmps155
 go_upto_region 1 with fail
 rw [HW0.o]
 go_wp2_with fail
 refine (dividedBy_any B _ _ x y n n _ (by have := HBW.o; have := HB0.o.size; omega) (H1.o.below HB0.o) (H2.o.below HB0.o) hy (by omega) (by omega) (HSP.o.below HB0.o)).mono ?_; rintro e w1 ⟨z1, z2, q, r, rfl, hz1, hz2, hdv, hb1⟩; obtain ⟨s5, p5, l5, c5, rfl⟩ := hz1.shape; obtain ⟨s6, p6, l6, c6, rfl⟩ := hz2.shape; have HZ1 := Hd hz1; have HDV := Hd hdv; have HB1 := Hd hb1; obtain ⟨W2, hW2⟩ := exW ((w1.alloc (.cells #[.bool s5, .slice p5 l5 c5] 46)).alloc (.cells #[.bool s6, .slice p6 l6 c6] 46)); have HW2 := Hd hW2; have hB2 : Up w1 W2 := by rw [← hW2]; exact below_al (below_alloc _ _) _
 have hq1 : Bx W2 w1.heap.size [.bool s5, .slice p5 l5 c5] := by rw [← hW2]; exact (bx_new w1 _ _).alloc _
 have HB02 : Hid (Up W0 W2) := HB1.o.trans (hB2.mono HB1.o.size); have HZ2 : Hid (IsI B W2 (.agg #[.bool s5, .slice p5 l5 c5]) q (n + 2)) := HZ1.o.below hB2; have q0 := hq1.cell 0; have q1 := hq1.cell 1; have hbw := HX.o W2 HB02.o; have r0 := hbw.cell 0; have r1 := hbw.cell 1; simp only [List.getElem?_cons_zero, List.getElem?_cons_succ] at q0 q1 r0 r1; obtain ⟨f0, f1⟩ := hbw.f2; clear hz1 hz2 hdv hb1 k0 k1 k2 k3 hW2 hB2 hq1 hbw
 go_upto_region 2 with fail
 rw [HW2.o]
 go_wp2
 have hbw := HX.o W2 HB02.o; have hno : NoInt W2 (w.heap.size + 1) := noInt_of hbw (by simp); have hLL := HZ2.o.put2 hno (.bool s5) (.slice p5 l5 c5); have hZ : Bx ((W2.setCell ⟨w.heap.size + 1, 0, none⟩ (.bool s5)).setCell ⟨w.heap.size + 1, 1, none⟩ (.slice p5 l5 c5)) (w.heap.size + 1) [.bool s5, .slice p5 l5 c5] := (hbw.set 0 _).set 1 _; have hE := set2 (HB0.o.trans (HB02.o.mono HB0.o.size)) (w.heap.size + 1) (Nat.le_succ _) (.bool s5) (.slice p5 l5 c5); generalize (W2.setCell ⟨w.heap.size + 1, 0, none⟩ (.bool s5)).setCell ⟨w.heap.size + 1, 1, none⟩ (.slice p5 l5 c5) = WE at *; obtain ⟨m0, m1⟩ := hZ.c2; refine bodyPost_ret (v := .agg #[.bool s5, .slice p5 l5 c5]) ?_ rfl ⟨_, q, r, rfl, hLL, HDV.o, hE⟩; simp [results, Tryz.results155, go_sem, m0, m1]
def simN (lo : Bool) (a b : Int) : Int := if b = 1 ∧ lo = false then a else a / b + 1
def simH (ho : Bool) (c d n : Int) : Prop := n * d < c ∨ n * d = c ∧ ho = false
abbrev SimT := Bool → Int → Int → Bool → Bool → Int → Int → Int → Int → Prop
def SimX (S : SimT) (lo : Bool) (a b : Int) (has ho : Bool) (c d p q : Int) : Prop := (has = false ∨ simH ho c d (simN lo a b)) ∧ p = simN lo a b ∧ q = 1 ∨ has = true ∧ ¬ simH ho c d (simN lo a b) ∧ ∃ r, S ho d (c - a / b * d) (decide (a - a / b * b ≠ 0)) lo b (a - a / b * b) q r ∧ p = a / b * q + r
def SimN : Nat → SimT
 | 0 => fun _ _ _ _ _ _ _ _ _ => False
 | n + 1 => SimX (SimN n)
def Sim (lo : Bool) (a b : Int) (has ho : Bool) (c d p q : Int) : Prop := ∃ n, SimN n lo a b has ho c d p q
theorem Sim.found (lo a b has ho c d) (h : has = false ∨ simH ho c d (simN lo a b)) : Sim lo a b has ho c d (simN lo a b) 1 := ⟨1, .inl ⟨h, rfl, rfl⟩⟩
theorem Sim.step (lo a b ho c d p q) (h : ¬ simH ho c d (simN lo a b)) (hr : Sim ho d (c - a / b * d) (decide (a - a / b * b ≠ 0)) lo b (a - a / b * b) p q) : Sim lo a b true ho c d (a / b * p + q) p := hr.elim fun n k => ⟨n + 1, .inr ⟨rfl, h, q, k, rfl⟩⟩
theorem Sim.ind {M : ∀ lo a b has ho c d p q, Sim lo a b has ho c d p q → Prop} (found : ∀ lo a b has ho c d h, M lo a b has ho c d _ _ (Sim.found lo a b has ho c d h)) (step : ∀ lo a b ho c d p q h hr, M _ _ _ _ _ _ _ _ _ hr → M lo a b true ho c d _ _ (Sim.step lo a b ho c d p q h hr)) {lo a b has ho c d p q} (h : Sim lo a b has ho c d p q) : M lo a b has ho c d p q h := by
 obtain ⟨n, h⟩ := h
 induction n generalizing lo a b has ho c d p q with
 | zero => cases h
 | succ n ih =>
  rcases h with ⟨h, rfl, rfl⟩ | ⟨rfl, h, r, k, rfl⟩
  ·exact found _ _ _ _ _ _ _ h
  ·exact step _ _ _ _ _ _ _ _ h ⟨n, k⟩ (ih k)
theorem Sim.inv {lo a b has ho c d p q} (h : Sim lo a b has ho c d p q) : SimX Sim lo a b has ho c d p q := by
 obtain ⟨_ | n, h⟩ := h
 ·cases h
 ·rcases h with h | ⟨x, y, r, k, e⟩
  ·exact .inl h
  ·exact .inr ⟨x, y, r, ⟨n, k⟩, e⟩
theorem Sim.unique {lo a b has ho c d p q} (h : Sim lo a b has ho c d p q) : ∀ p' q', Sim lo a b has ho c d p' q' → p = p' ∧ q = q' := by
 induction h using Sim.ind with
 | found lo a b has ho c d h =>
  intro p' q' h'
  rcases h'.inv with ⟨_, rfl, rfl⟩ | ⟨rfl, h2, _⟩
  ·exact ⟨rfl, rfl⟩
  ·rcases h with h | h
   ·cases h
   ·exact absurd h h2
 | step lo a b ho c d p q h hr ih =>
  intro p' q' h'
  rcases h'.inv with ⟨h2, _⟩ | ⟨_, _, r, hr2, rfl⟩
  ·rcases h2 with h2 | h2
   ·cases h2
   ·exact absurd h2 h
  ·obtain ⟨rfl, rfl⟩ := ih _ _ hr2
   exact ⟨rfl, rfl⟩
structure Ends (lo : Bool) (a b : Int) (has ho : Bool) (c d : Int) : Prop where
 b0 : 0 < b
 a0 : 0 ≤ a
 g : Int.gcd a b = 1
 pos : 0 < a ∨ lo = true
 hi : has = true → 0 < d ∧ Int.gcd c d = 1 ∧ (a * d < c * b ∨ a * d = c * b ∧ lo = false ∧ ho = false)
theorem div_parts (a b : Int) (hb : 0 < b) : a / b * b + (a - a / b * b) = a ∧ 0 ≤ a - a / b * b ∧ a - a / b * b < b := by
 have h1 := Int.mul_ediv_add_emod a b; have h2 := Int.emod_nonneg a (Int.ne_of_gt hb); have h3 := Int.emod_lt_of_pos a hb; rw [Int.mul_comm] at h1; omega
theorem gcd_part (a b f : Int) (h : Int.gcd a b = 1) : Int.gcd b (a - f * b) = 1 := by
 have h1 : (Int.gcd b (a - f * b) : Int) ∣ b := Int.gcd_dvd_left ..; have h2 : (Int.gcd b (a - f * b) : Int) ∣ (a - f * b) := Int.gcd_dvd_right ..; have h3 : (Int.gcd b (a - f * b) : Int) ∣ a := by
  have h4 := Int.dvd_add h2 (Int.dvd_mul_of_dvd_right h1 : _ ∣ f * b)
  rwa [Int.sub_add_cancel] at h4
 have h5 := Int.dvd_coe_gcd h3 h1; rw [h] at h5; have h6 := Int.natAbs_dvd_natAbs.2 h5; rw [Int.natAbs_natCast] at h6; exact Nat.dvd_one.1 h6
theorem gcd_whole {a b f : Int} (h : Int.gcd a b = 1) (hb : 0 < b) (e : a = f * b) : b = 1 := by
 have h1 : b ∣ a := ⟨f, by rw [e, Int.mul_comm]⟩; have h2 := Int.dvd_coe_gcd h1 (Int.dvd_refl b); rw [h] at h2; have h3 := Int.natAbs_dvd_natAbs.2 h2; have h4 := Nat.le_of_dvd (by decide) h3; simp at h4; omega
theorem ends_low {lo : Bool} {a b c d : Int} {ho : Bool} (h : Ends lo a b true ho c d) (f r : Int) (hf : f * b + r = a) : r * d < (c - f * d) * b ∨ r * d = (c - f * d) * b ∧ lo = false ∧ ho = false := by
 obtain ⟨d0, _, hc⟩ := h.hi rfl; have e1 : a * d = f * b * d + r * d := by rw [← hf, Int.add_mul]
 have e2 : (c - f * d) * b = c * b - f * b * d := by rw [Int.sub_mul, Int.mul_right_comm]
 rcases hc with h1 | ⟨h1, h2⟩
 ·left; omega
 right; exact ⟨by omega, h2⟩
theorem ends_step {lo : Bool} {a b c d : Int} {ho : Bool} (h : Ends lo a b true ho c d) (hn : ¬ simH ho c d (simN lo a b)) :
 simN lo a b = a / b + 1 ∧ 0 < c - a / b * d ∧ c - a / b * d ≤ d ∧ Ends ho d (c - a / b * d) (decide (a - a / b * b ≠ 0)) lo b (a - a / b * b) := by
 obtain ⟨d0, gd, hc⟩ := h.hi rfl; have hb := h.b0; obtain ⟨e1, r0, r1⟩ := div_parts a b hb; have hl := ends_low h _ _ e1; obtain ⟨f, hf⟩ := exW (a / b); obtain ⟨r, hr⟩ := exW (a - a / b * b); rw [hr] at e1 r0 r1 hl ⊢; have hs : simN lo a b = a / b + 1 := by
  unfold simN
  by_cases hq : b = 1 ∧ lo = false
  ·exfalso
   obtain ⟨hq1, hq2⟩ := hq; have hn1 : simN lo a b = a := by unfold simN; rw [if_pos ⟨hq1, hq2⟩]
   rw [hn1] at hn; refine hn ?_; unfold simH; subst hq1; rw [Int.mul_one] at hc
   rcases hc with h1 | ⟨h1, _, h3⟩
   ·exact .inl h1
   exact .inr ⟨h1, h3⟩
  rw [if_neg hq]
 rw [hs] at hn; rw [hf] at e1 hl hn ⊢; rw [← hf, hs, hf]; have he : c - f * d ≤ d := by
  unfold simH at hn; have h1 : ¬ (f + 1) * d < c := fun h2 => hn (.inl h2); have h2 : (f + 1) * d = f * d + d := by rw [Int.add_mul, Int.one_mul]
  omega
 have hrd : 0 ≤ r * d := Int.mul_nonneg r0 (Int.le_of_lt d0); have he0 : 0 < c - f * d := by
  rcases Int.lt_trichotomy 0 (c - f * d) with h1 | h1 | h1
  ·exact h1
  ·exfalso
   rw [← h1, Int.zero_mul] at hl; have hlo : lo = false ∧ r * d = 0 := by
    rcases hl with h2 | ⟨h2, h3, _⟩
    ·omega
    exact ⟨h3, h2⟩
   have hr0 : r = 0 := by
    rcases Int.mul_eq_zero.1 hlo.2 with h2 | h2
    ·exact h2
    omega
   have hb1 := gcd_whole h.g hb (show a = f * b by omega); have h2 : simN lo a b = a := by unfold simN; rw [if_pos ⟨hb1, hlo.1⟩]
   rw [h2, hf] at hs; rw [hb1, Int.mul_one] at e1; omega
  exfalso
  have h2 : (c - f * d) * b < 0 := Int.mul_neg_of_neg_of_pos h1 hb
  rcases hl with h3 | ⟨h3, _⟩ <;> omega
 refine ⟨rfl, he0, he, he0, Int.le_of_lt d0, ?_, .inl d0, ?_⟩
 ·exact gcd_part c d f gd
 intro hh; have hne : r ≠ 0 := of_decide_eq_true hh; refine ⟨by omega, ?_, ?_⟩
 ·rw [← hr, hf]; exact gcd_part a b f h.g
 rw [Int.mul_comm d r, Int.mul_comm b (c - f * d)]
 rcases hl with h1 | ⟨h1, h2, h3⟩
 ·exact .inl h1
 exact .inr ⟨h1, h3, h2⟩
theorem Sim.bound {lo a b has ho c d p q} (h : Sim lo a b has ho c d p q) : Ends lo a b has ho c d → 0 < p ∧ 0 < q ∧ p ≤ a + (if has then c else 1) ∧ q ≤ b + (if has then d else 0) := by
 induction h using Sim.ind with
 | found lo a b has ho c d h =>
   intro hE; have hb := hE.b0; have ha := hE.a0; have hp : 0 < simN lo a b ∧ simN lo a b ≤ a + 1 := by
    unfold simN
    split
    ·rename_i h1
     rcases hE.pos with h2 | h2
     ·omega
     ·rw [h1.2] at h2; cases h2
    ·have h1 := Int.ediv_nonneg ha (Int.le_of_lt hb); have h2 : a / b ≤ a := Int.ediv_le_self b ha; omega
   cases has with
   | false => simp; omega
   | true =>
     have h0 := hE.hi rfl
     rcases h with h | h
     ·cases h
     ·have hc : 0 < c := by
       have hd := h0.1; have : 0 < simN lo a b * d := Int.mul_pos hp.1 hd; unfold simH at h; omega
      simp; omega
 | step lo a b ho c d p q h hr ih =>
   intro hE; obtain ⟨hs, h1, h2, h3⟩ := ends_step hE h; obtain ⟨i1, i2, i3, i4⟩ := ih h3; have hd := (hE.hi rfl).1; have hb := hE.b0; obtain ⟨e1, r0, r1⟩ := div_parts a b hb; have hf0 := Int.ediv_nonneg hE.a0 (Int.le_of_lt hb); clear ih hr h3 hs h; generalize a / b = f at *; have i3' : p ≤ d + b := by
    refine Int.le_trans i3 ?_
    split <;> omega
   have i4' : q ≤ c - f * d + (a - f * b) := by
    refine Int.le_trans i4 ?_
    split
    ·exact Int.le_refl _
    ·omega
   have h5 : f * p ≤ f * (d + b) := Int.mul_le_mul_of_nonneg_left i3' hf0; have h6 : f * (d + b) = f * d + f * b := Int.mul_add ..; have h7 : 0 ≤ f * p := Int.mul_nonneg hf0 (Int.le_of_lt i1); simp; refine ⟨by omega, i1, by omega, by omega⟩
theorem IsI.keeps {B : Nat} {w W : World} {z : Value} {x : Int} {n : Nat} {g h : Nat} (hi : IsI B w z x n) (n1 : NoInt w g) (n2 : NoInt w h) (k : Keeps g h w W) : IsI B W z x n := by
 obtain ⟨neg, v, t, e, hL, r⟩ := hi; exact ⟨neg, v, t, e, hL.keeps n1 n2 k, r⟩
def IsE (w : World) (z : Value) (hs op : Bool) (x y : Int) (n : Nat) : Prop := ∃ s1 p1 l1 c1 s2 p2 l2 c2, z = .agg #[.bool hs, .bool op, .bool s1, .slice p1 l1 c1, .bool s2, .slice p2 l2 c2] ∧ IsI 0 w (.agg #[.bool s1, .slice p1 l1 c1]) x n ∧ IsI 0 w (.agg #[.bool s2, .slice p2 l2 c2]) y n
theorem IsE.below {w w' : World} {z : Value} {hs op : Bool} {x y : Int} {n : Nat} (h : IsE w z hs op x y n) (hb : Up w w') : IsE w' z hs op x y n := by
 obtain ⟨s1, p1, l1, c1, s2, p2, l2, c2, e, h1, h2⟩ := h; exact ⟨s1, p1, l1, c1, s2, p2, l2, c2, e, h1.below hb, h2.below hb⟩
theorem qr_mk {w : World} {s1 s2 : Bool} {v1 v2 : Value} {x y : Int} {n : Nat} (h1 : IsI 0 w (.agg #[.bool s1, v1]) x n) (h2 : IsI 0 w (.agg #[.bool s2, v2]) y n) : IsQR 0 w (.agg #[.bool s1, v1, .bool s2, v2]) x y n := ⟨_, _, _, _, rfl, h1, h2⟩
def admB (hs op : Bool) (c d x y : Int) : Bool := !hs || (decide (ordI (x * d) (c * y) < 0) || (decide (ordI (x * d) (c * y) = 0) && !op))
theorem ordI_three (x y : Int) : ordI x y = -1 ∨ ordI x y = 0 ∨ ordI x y = 1 := by
 unfold ordI
 split
 ·exact .inl rfl
 split
 ·exact .inr (.inr rfl)
 exact .inr (.inl rfl)
theorem cell_farC6 {W : World} {a : Addr} {v : Value} (g : Nat) (h : W.cell? a = some v) (hg : g ≠ a.block) (u0 u1 u2 u3 u4 u5 : Value) : ((((((W.setCell ⟨g, 0, none⟩ (u0)).setCell ⟨g, 1, none⟩ (u1)).setCell ⟨g, 2, none⟩ (u2)).setCell ⟨g, 3, none⟩ (u3)).setCell ⟨g, 4, none⟩ (u4)).setCell ⟨g, 5, none⟩ (u5)).cell? a = some v := by
 rw [World.cell?_setCell_far _ _ _ _ hg, World.cell?_setCell_far _ _ _ _ hg, World.cell?_setCell_far _ _ _ _ hg, World.cell?_setCell_far _ _ _ _ hg, World.cell?_setCell_far _ _ _ _ hg, World.cell?_setCell_far _ _ _ _ hg]; exact h
theorem cell_farC4 {W : World} {a : Addr} {v : Value} (g : Nat) (h : W.cell? a = some v) (hg : g ≠ a.block) (u0 u1 u2 u3 : Value) : ((((W.setCell ⟨g, 0, none⟩ (u0)).setCell ⟨g, 1, none⟩ (u1)).setCell ⟨g, 2, none⟩ (u2)).setCell ⟨g, 3, none⟩ (u3)).cell? a = some v := by
 rw [World.cell?_setCell_far _ _ _ _ hg, World.cell?_setCell_far _ _ _ _ hg, World.cell?_setCell_far _ _ _ _ hg, World.cell?_setCell_far _ _ _ _ hg]; exact h
theorem cell_farC2 {W : World} {a : Addr} {v : Value} (g : Nat) (h : W.cell? a = some v) (hg : g ≠ a.block) (u0 u1 : Value) : ((W.setCell ⟨g, 0, none⟩ (u0)).setCell ⟨g, 1, none⟩ (u1)).cell? a = some v := by
 rw [World.cell?_setCell_far _ _ _ _ hg, World.cell?_setCell_far _ _ _ _ hg]; exact h
theorem keepsC2 (W : World) (g : Nat) (u0 u1 : Value) : Keeps g g W ((W.setCell ⟨g, 0, none⟩ (u0)).setCell ⟨g, 1, none⟩ (u1)) :=
 Keeps.setCell (Keeps.setCell (Keeps.refl g g W) ⟨g, 0, none⟩ u0 (Or.inl rfl)) ⟨g, 1, none⟩ u1 (Or.inl rfl)
theorem keepsC4 (W : World) (g : Nat) (u0 u1 u2 u3 : Value) : Keeps g g W ((((W.setCell ⟨g, 0, none⟩ (u0)).setCell ⟨g, 1, none⟩ (u1)).setCell ⟨g, 2, none⟩ (u2)).setCell ⟨g, 3, none⟩ (u3)) :=
 Keeps.setCell (Keeps.setCell (Keeps.setCell (Keeps.setCell (Keeps.refl g g W) ⟨g, 0, none⟩ u0 (Or.inl rfl)) ⟨g, 1, none⟩ u1 (Or.inl rfl)) ⟨g, 2, none⟩ u2 (Or.inl rfl)) ⟨g, 3, none⟩ u3 (Or.inl rfl)
theorem keepsC6 (W : World) (g : Nat) (u0 u1 u2 u3 u4 u5 : Value) : Keeps g g W ((((((W.setCell ⟨g, 0, none⟩ (u0)).setCell ⟨g, 1, none⟩ (u1)).setCell ⟨g, 2, none⟩ (u2)).setCell ⟨g, 3, none⟩ (u3)).setCell ⟨g, 4, none⟩ (u4)).setCell ⟨g, 5, none⟩ (u5)) :=
 Keeps.setCell (Keeps.setCell (Keeps.setCell (Keeps.setCell (Keeps.setCell (Keeps.setCell (Keeps.refl g g W) ⟨g, 0, none⟩ u0 (Or.inl rfl)) ⟨g, 1, none⟩ u1 (Or.inl rfl)) ⟨g, 2, none⟩ u2 (Or.inl rfl)) ⟨g, 3, none⟩ u3 (Or.inl rfl)) ⟨g, 4, none⟩ u4 (Or.inl rfl)) ⟨g, 5, none⟩ u5 (Or.inl rfl)
theorem putS_4_4 {W : World} {a0 a1 a2 a3 : Addr} {v0 v1 v2 v3 : Value} (m : W.cell? a0 = some v0 ∧ W.cell? a1 = some v1 ∧ W.cell? a2 = some v2 ∧ W.cell? a3 = some v3) (g : Nat) (h : g ≠ a0.block ∧ g ≠ a1.block ∧ g ≠ a2.block ∧ g ≠ a3.block) (u0 u1 u2 u3 : Value) : ((((W.setCell ⟨g, 0, none⟩ (u0)).setCell ⟨g, 1, none⟩ (u1)).setCell ⟨g, 2, none⟩ (u2)).setCell ⟨g, 3, none⟩ (u3)).cell? a0 = some v0 ∧ ((((W.setCell ⟨g, 0, none⟩ (u0)).setCell ⟨g, 1, none⟩ (u1)).setCell ⟨g, 2, none⟩ (u2)).setCell ⟨g, 3, none⟩ (u3)).cell? a1 = some v1 ∧ ((((W.setCell ⟨g, 0, none⟩ (u0)).setCell ⟨g, 1, none⟩ (u1)).setCell ⟨g, 2, none⟩ (u2)).setCell ⟨g, 3, none⟩ (u3)).cell? a2 = some v2 ∧ ((((W.setCell ⟨g, 0, none⟩ (u0)).setCell ⟨g, 1, none⟩ (u1)).setCell ⟨g, 2, none⟩ (u2)).setCell ⟨g, 3, none⟩ (u3)).cell? a3 = some v3 :=
 ⟨cell_farC4 g m.1 h.1 _ _ _ _, cell_farC4 g m.2.1 h.2.1 _ _ _ _, cell_farC4 g m.2.2.1 h.2.2.1 _ _ _ _, cell_farC4 g m.2.2.2 h.2.2.2 _ _ _ _⟩
theorem putS_6_6 {W : World} {a0 a1 a2 a3 a4 a5 : Addr} {v0 v1 v2 v3 v4 v5 : Value} (m : W.cell? a0 = some v0 ∧ W.cell? a1 = some v1 ∧ W.cell? a2 = some v2 ∧ W.cell? a3 = some v3 ∧ W.cell? a4 = some v4 ∧ W.cell? a5 = some v5) (g : Nat) (h : g ≠ a0.block ∧ g ≠ a1.block ∧ g ≠ a2.block ∧ g ≠ a3.block ∧ g ≠ a4.block ∧ g ≠ a5.block) (u0 u1 u2 u3 u4 u5 : Value) : ((((((W.setCell ⟨g, 0, none⟩ (u0)).setCell ⟨g, 1, none⟩ (u1)).setCell ⟨g, 2, none⟩ (u2)).setCell ⟨g, 3, none⟩ (u3)).setCell ⟨g, 4, none⟩ (u4)).setCell ⟨g, 5, none⟩ (u5)).cell? a0 = some v0 ∧ ((((((W.setCell ⟨g, 0, none⟩ (u0)).setCell ⟨g, 1, none⟩ (u1)).setCell ⟨g, 2, none⟩ (u2)).setCell ⟨g, 3, none⟩ (u3)).setCell ⟨g, 4, none⟩ (u4)).setCell ⟨g, 5, none⟩ (u5)).cell? a1 = some v1 ∧ ((((((W.setCell ⟨g, 0, none⟩ (u0)).setCell ⟨g, 1, none⟩ (u1)).setCell ⟨g, 2, none⟩ (u2)).setCell ⟨g, 3, none⟩ (u3)).setCell ⟨g, 4, none⟩ (u4)).setCell ⟨g, 5, none⟩ (u5)).cell? a2 = some v2 ∧ ((((((W.setCell ⟨g, 0, none⟩ (u0)).setCell ⟨g, 1, none⟩ (u1)).setCell ⟨g, 2, none⟩ (u2)).setCell ⟨g, 3, none⟩ (u3)).setCell ⟨g, 4, none⟩ (u4)).setCell ⟨g, 5, none⟩ (u5)).cell? a3 = some v3 ∧ ((((((W.setCell ⟨g, 0, none⟩ (u0)).setCell ⟨g, 1, none⟩ (u1)).setCell ⟨g, 2, none⟩ (u2)).setCell ⟨g, 3, none⟩ (u3)).setCell ⟨g, 4, none⟩ (u4)).setCell ⟨g, 5, none⟩ (u5)).cell? a4 = some v4 ∧ ((((((W.setCell ⟨g, 0, none⟩ (u0)).setCell ⟨g, 1, none⟩ (u1)).setCell ⟨g, 2, none⟩ (u2)).setCell ⟨g, 3, none⟩ (u3)).setCell ⟨g, 4, none⟩ (u4)).setCell ⟨g, 5, none⟩ (u5)).cell? a5 = some v5 :=
 ⟨cell_farC6 g m.1 h.1 _ _ _ _ _ _, cell_farC6 g m.2.1 h.2.1 _ _ _ _ _ _, cell_farC6 g m.2.2.1 h.2.2.1 _ _ _ _ _ _, cell_farC6 g m.2.2.2.1 h.2.2.2.1 _ _ _ _ _ _, cell_farC6 g m.2.2.2.2.1 h.2.2.2.2.1 _ _ _ _ _ _, cell_farC6 g m.2.2.2.2.2 h.2.2.2.2.2 _ _ _ _ _ _⟩
set_option maxRecDepth 100000 in
set_option maxHeartbeats 2000000 in
theorem negQ_any (z : Value) (x y : Int) (n : Nat) (w : World) (h : IsQR 0 w z x y n) :
 Calls Tryz.prog 122 #[z] w fun e w' => ∃ z', e = .returned z' ∧ IsQR 0 w' z' (-x) y n ∧ Up w w' := by
 obtain ⟨s1, p1, l1, c1, s2, p2, l2, c2, rfl, h1, h2⟩ := h.shape; have H1 := Hd h1; have H2 := Hd h2; clear h h1 h2; obtain ⟨W0, hW0⟩ := exW ((w.alloc (.cells #[.bool s1, .slice p1 l1 c1, .bool s2, .slice p2 l2 c2] 64)).alloc (.cells #[.bool false, .slice none 0 0, .bool false, .slice none 0 0] 64)); have HW0 := Hd hW0; have HB0 : Hid (Up w W0) := by unfold Hid; rw [← hW0]; exact below_al (below_alloc _ _) _
 have HS0 : Hid (W0.heap.size = w.heap.size + 2) := by show W0.heap.size = _; rw [← hW0]; simp
 have hx0_0 : Bx W0 (w.heap.size) [.bool s1, .slice p1 l1 c1, .bool s2, .slice p2 l2 c2] := by
  rw [← hW0]; exact (bx_new w _ _).alloc _
 have hx0_1 : Bx W0 (w.heap.size + 1) [.bool false, .slice none 0 0, .bool false, .slice none 0 0] := by
  rw [← hW0]; have h := bx_new (w.alloc (.cells #[.bool s1, .slice p1 l1 c1, .bool s2, .slice p2 l2 c2] 64)) [.bool false, .slice none 0 0, .bool false, .slice none 0 0] 64; rw [World.size_alloc] at h; exact h
 have HX0 : Hid (∀ W, Up W0 W → Bx W (w.heap.size) [.bool s1, .slice p1 l1 c1, .bool s2, .slice p2 l2 c2] ∧ Bx W (w.heap.size + 1) [.bool false, .slice none 0 0, .bool false, .slice none 0 0]) := fun W hW => ⟨hx0_0.below hx0_0.lt hW, hx0_1.below hx0_1.lt hW⟩; have T1 : Hid (∀ W, Up W0 W → Calls Tryz.prog 99 #[.agg #[.bool s1, .slice p1 l1 c1]] W (fun e w' => ∃ z, e = .returned z ∧ IsI 0 w' z (-x) n ∧ Up W w')) := fun W hW => negated_any 0 _ x n W ((H1.o.below HB0.o).below hW); obtain ⟨k0, k1, k2, k3⟩ := hx0_0.c4; clear hW0 hx0_0 hx0_1
 go_enter Tryz.func122, Tryz.ntmps122
 go_upto_region 1 with fail
 rw [HW0.o]
 go_wp2_with fail
 go_region_held3 (fun W => W.cell? ⟨w.heap.size, 0, none⟩ = some (.bool s1) ∧ W.cell? ⟨w.heap.size, 1, none⟩ = some (.slice p1 l1 c1) ∧ W.cell? ⟨w.heap.size, 2, none⟩ = some (.bool s2) ∧ W.cell? ⟨w.heap.size, 3, none⟩ = some (.slice p2 l2 c2)) (first
  | with_reducible assumption | with_reducible exact putS_4_4 (by with_reducible assumption) (w.heap.size + 1) (by dsimp only; omega) _ _ _ _ | go_keep) (first
  | (go_at_call 99
     refine (T1.o _ ?_).mono ?_
     ·exact (Below.refl _ W0).drew
     rintro e wm ⟨u1, rfl, hu, hb⟩; have HU := Hd hu; have HQM : Hid (Up W0 wm) := (Below.refl _ W0).drew.trans hb; obtain ⟨t1, a1, e1, g1, rfl⟩ := hu.shape; have hxa := HX0.o wm HQM.o; have hS0 := cc4 hxa.1; obtain ⟨r0, r1, r2, r3⟩ := hxa.2.c4; obtain ⟨rf0, rf1, rf2, rf3⟩ := hxa.2.f4; clear hu hb hxa))
 all_goals
  try simp only [List.getElem_toArray, List.getElem_cons_succ, List.getElem_cons_zero, Act.put, List.setIfInBounds_toArray, List.set_cons_succ, List.set_cons_zero]
  go_wp2
  have hbw := (HX0.o wm HQM.o).2; have hnR : NoInt wm (w.heap.size + 1) := noInt_of hbw (by simp); have hD1 := HU.o.keeps hnR hnR (keepsC4 wm (w.heap.size + 1) (.bool t1) (.slice a1 e1 g1) (.bool s2) (.slice p2 l2 c2)); have hD2 := ((H2.o.below HB0.o).below HQM.o).keeps hnR hnR (keepsC4 wm (w.heap.size + 1) (.bool t1) (.slice a1 e1 g1) (.bool s2) (.slice p2 l2 c2)); have hB9 := bs4 (HB0.o.trans (HQM.o.mono HB0.o.size)) (w.heap.size + 1) (by omega) (.bool t1) (.slice a1 e1 g1) (.bool s2) (.slice p2 l2 c2); have hZ := hbw.s4 (.bool t1) (.slice a1 e1 g1) (.bool s2) (.slice p2 l2 c2); generalize (((wm.setCell ⟨w.heap.size + 1, 0, none⟩ (.bool t1)).setCell ⟨w.heap.size + 1, 1, none⟩ (.slice a1 e1 g1)).setCell ⟨w.heap.size + 1, 2, none⟩ (.bool s2)).setCell ⟨w.heap.size + 1, 3, none⟩ (.slice p2 l2 c2) = W9 at *; obtain ⟨v0, v1, v2, v3⟩ := hZ.c4; refine bodyPost_ret (v := .agg #[.bool t1, .slice a1 e1 g1, .bool s2, .slice p2 l2 c2]) ?_ rfl ⟨_, rfl, qr_mk hD1 hD2, hB9⟩; simp [results, Tryz.results122, go_sem, v0, v1, v2, v3]
set_option maxRecDepth 100000 in
set_option maxHeartbeats 2000000 in
theorem mirrored_any (z : Value) (hs op : Bool) (x y : Int) (n : Nat) (w : World) (h : IsE w z hs op x y n) :
 Calls Tryz.prog 121 #[z] w fun e w' => ∃ z', e = .returned z' ∧ IsE w' z' hs op (-x) y n ∧ Up w w' := by
 obtain ⟨s1, p1, l1, c1, s2, p2, l2, c2, rfl, h1, h2⟩ := h; have H1 := Hd h1; have H2 := Hd h2; clear h1 h2; obtain ⟨W0, hW0⟩ := exW ((w.alloc (.cells #[.bool hs, .bool op, .bool s1, .slice p1 l1 c1, .bool s2, .slice p2 l2 c2] 82)).alloc (.cells #[.bool false, .bool false, .bool false, .slice none 0 0, .bool false, .slice none 0 0] 82)); have HW0 := Hd hW0; have HB0 : Hid (Up w W0) := by unfold Hid; rw [← hW0]; exact below_al (below_alloc _ _) _
 have HS0 : Hid (W0.heap.size = w.heap.size + 2) := by show W0.heap.size = _; rw [← hW0]; simp
 have hx0_0 : Bx W0 (w.heap.size) [.bool hs, .bool op, .bool s1, .slice p1 l1 c1, .bool s2, .slice p2 l2 c2] := by
  rw [← hW0]; exact (bx_new w _ _).alloc _
 have hx0_1 : Bx W0 (w.heap.size + 1) [.bool false, .bool false, .bool false, .slice none 0 0, .bool false, .slice none 0 0] := by
  rw [← hW0]; have h := bx_new (w.alloc (.cells #[.bool hs, .bool op, .bool s1, .slice p1 l1 c1, .bool s2, .slice p2 l2 c2] 82)) [.bool false, .bool false, .bool false, .slice none 0 0, .bool false, .slice none 0 0] 82; rw [World.size_alloc] at h; exact h
 have HX0 : Hid (∀ W, Up W0 W → Bx W (w.heap.size) [.bool hs, .bool op, .bool s1, .slice p1 l1 c1, .bool s2, .slice p2 l2 c2] ∧ Bx W (w.heap.size + 1) [.bool false, .bool false, .bool false, .slice none 0 0, .bool false, .slice none 0 0]) := fun W hW => ⟨hx0_0.below hx0_0.lt hW, hx0_1.below hx0_1.lt hW⟩; have T1 : Hid (∀ W, Up W0 W → Calls Tryz.prog 122 #[.agg #[.bool s1, .slice p1 l1 c1, .bool s2, .slice p2 l2 c2]] W (fun e w' => ∃ z', e = .returned z' ∧ IsQR 0 w' z' (-x) y n ∧ Up W w')) := fun W hW => negQ_any _ x y n W (qr_mk ((H1.o.below HB0.o).below hW) ((H2.o.below HB0.o).below hW)); obtain ⟨k0, k1, k2, k3, k4, k5⟩ := hx0_0.c6; clear hW0 hx0_0 hx0_1
 go_enter Tryz.func121, Tryz.ntmps121
 go_upto_region 1 with fail
 rw [HW0.o]
 go_wp2_with fail
 go_region_held3 (fun W => W.cell? ⟨w.heap.size, 0, none⟩ = some (.bool hs) ∧ W.cell? ⟨w.heap.size, 1, none⟩ = some (.bool op) ∧ W.cell? ⟨w.heap.size, 2, none⟩ = some (.bool s1) ∧ W.cell? ⟨w.heap.size, 3, none⟩ = some (.slice p1 l1 c1) ∧ W.cell? ⟨w.heap.size, 4, none⟩ = some (.bool s2) ∧ W.cell? ⟨w.heap.size, 5, none⟩ = some (.slice p2 l2 c2)) (first
  | with_reducible assumption | with_reducible exact putS_6_6 (by with_reducible assumption) (w.heap.size + 1) (by dsimp only; omega) _ _ _ _ _ _ | go_keep) (first
  | (go_at_call 122
     refine (T1.o _ ?_).mono ?_
     ·exact (Below.refl _ W0).drew
     rintro e wm ⟨u1, rfl, hu, hb⟩; have HQM : Hid (Up W0 wm) := (Below.refl _ W0).drew.trans hb; obtain ⟨t1, a1, e1, g1, t2, a2, e2, g2, rfl, hu1, hu2⟩ := hu.shape; have HU1 := Hd hu1; have HU2 := Hd hu2; have hxa := HX0.o wm HQM.o; have hS0 := cc6 hxa.1; obtain ⟨r0, r1, r2, r3, r4, r5⟩ := hxa.2.c6; obtain ⟨rf0, rf1, rf2, rf3, rf4, rf5⟩ := hxa.2.f6; clear hu hu1 hu2 hb hxa))
 all_goals
  try simp only [List.getElem_toArray, List.getElem_cons_succ, List.getElem_cons_zero, Act.put, List.setIfInBounds_toArray, List.set_cons_succ, List.set_cons_zero]
  go_wp2
  have hbw := (HX0.o wm HQM.o).2; have hnR : NoInt wm (w.heap.size + 1) := noInt_of hbw (by simp); have hD1 := HU1.o.keeps hnR hnR (keepsC6 wm (w.heap.size + 1) (.bool hs) (.bool op) (.bool t1) (.slice a1 e1 g1) (.bool t2) (.slice a2 e2 g2)); have hD2 := HU2.o.keeps hnR hnR (keepsC6 wm (w.heap.size + 1) (.bool hs) (.bool op) (.bool t1) (.slice a1 e1 g1) (.bool t2) (.slice a2 e2 g2)); have hB9 := bs6 (HB0.o.trans (HQM.o.mono HB0.o.size)) (w.heap.size + 1) (by omega) (.bool hs) (.bool op) (.bool t1) (.slice a1 e1 g1) (.bool t2) (.slice a2 e2 g2); have hZ := hbw.s6 (.bool hs) (.bool op) (.bool t1) (.slice a1 e1 g1) (.bool t2) (.slice a2 e2 g2); generalize (((((wm.setCell ⟨w.heap.size + 1, 0, none⟩ (.bool hs)).setCell ⟨w.heap.size + 1, 1, none⟩ (.bool op)).setCell ⟨w.heap.size + 1, 2, none⟩ (.bool t1)).setCell ⟨w.heap.size + 1, 3, none⟩ (.slice a1 e1 g1)).setCell ⟨w.heap.size + 1, 4, none⟩ (.bool t2)).setCell ⟨w.heap.size + 1, 5, none⟩ (.slice a2 e2 g2) = W9 at *; obtain ⟨v0, v1, v2, v3, v4, v5⟩ := hZ.c6; refine bodyPost_ret (v := .agg #[.bool hs, .bool op, .bool t1, .slice a1 e1 g1, .bool t2, .slice a2 e2 g2]) ?_ rfl ⟨_, rfl, ⟨_, _, _, _, _, _, _, _, rfl, hD1, hD2⟩, hB9⟩; simp [results, Tryz.results121, go_sem, v0, v1, v2, v3, v4, v5]
set_option maxRecDepth 100000 in
set_option maxHeartbeats 2000000 in
theorem admitsBelow_any (z zx : Value) (hs op : Bool) (c d x y : Int) (n : Nat) (w : World) (h : IsE w z hs op c d n) (hq : IsQR 0 w zx x y n) (hn : n ≤ 10000) (hSP : SP w) :
 Calls Tryz.prog 120 #[z, zx] w fun e w' => e = .returned (.bool (admB hs op c d x y)) ∧ Up w w' := by
 obtain ⟨s1, p1, l1, c1, s2, p2, l2, c2, rfl, h1, h2⟩ := h; obtain ⟨s3, p3, l3, c3, s4, p4, l4, c4, rfl, h3, h4⟩ := hq.shape; have H1 := Hd h1; have H2 := Hd h2; have H3 := Hd h3; have H4 := Hd h4; have HSP := Hd hSP; clear h1 h2 h3 h4 hq hSP; obtain ⟨W0, hW0⟩ := exW ((w.alloc (.cells #[.bool hs, .bool op, .bool s1, .slice p1 l1 c1, .bool s2, .slice p2 l2 c2] 82)).alloc (.cells #[.bool s3, .slice p3 l3 c3, .bool s4, .slice p4 l4 c4] 64)); have HW0 := Hd hW0; have HB0 : Hid (Up w W0) := by unfold Hid; rw [← hW0]; exact below_al (below_alloc _ _) _
 have HS0 : Hid (W0.heap.size = w.heap.size + 2) := by show W0.heap.size = _; rw [← hW0]; simp
 have hx0_0 : Bx W0 (w.heap.size) [.bool hs, .bool op, .bool s1, .slice p1 l1 c1, .bool s2, .slice p2 l2 c2] := by
  rw [← hW0]; exact (bx_new w _ _).alloc _
 have hx0_1 : Bx W0 (w.heap.size + 1) [.bool s3, .slice p3 l3 c3, .bool s4, .slice p4 l4 c4] := by
  rw [← hW0]; have h := bx_new (w.alloc (.cells #[.bool hs, .bool op, .bool s1, .slice p1 l1 c1, .bool s2, .slice p2 l2 c2] 82)) [.bool s3, .slice p3 l3 c3, .bool s4, .slice p4 l4 c4] 64; rw [World.size_alloc] at h; exact h
 have HX0 : Hid (∀ W, Up W0 W → Bx W (w.heap.size) [.bool hs, .bool op, .bool s1, .slice p1 l1 c1, .bool s2, .slice p2 l2 c2] ∧ Bx W (w.heap.size + 1) [.bool s3, .slice p3 l3 c3, .bool s4, .slice p4 l4 c4]) := fun W hW => ⟨hx0_0.below hx0_0.lt hW, hx0_1.below hx0_1.lt hW⟩; obtain ⟨k0, k1, k2, k3, k4, k5⟩ := hx0_0.c6; obtain ⟨j0, j1, j2, j3⟩ := hx0_1.c4; clear hW0 hx0_0 hx0_1; cases hs
 ·go_enter Tryz.func120, Tryz.ntmps120
  go_upto_region 1 with fail
  rw [HW0.o]
  go_wp2
  go_ret
  exact ⟨rfl, HB0.o⟩
 go_enter Tryz.func120, Tryz.ntmps120
 go_upto_region 1 with fail
 rw [HW0.o]
 go_wp2_with fail
 refine (compareQ_any 0 _ _ x y c d n _ (Nat.zero_le _) (qr_mk (H3.o.below HB0.o) (H4.o.below HB0.o)) (qr_mk (H1.o.below HB0.o) (H2.o.below HB0.o)) hn (HSP.o.below HB0.o)).mono ?_; rintro e w1 ⟨rfl, hb1⟩; have HB1 : Hid (Up w w1) := HB0.o.trans (hb1.mono HB0.o.size); have hxa := (HX0.o w1 hb1).1; have m1 := hxa.cell 1; simp only [List.getElem?_cons_zero, List.getElem?_cons_succ] at m1; have HO : Hid (∀ r, ordI (x * d) (c * y) = r → admB true op c d x y = (decide (r < 0) || (decide (r = 0) && !op))) := fun r hr => by unfold admB; rw [hr]; rfl
 have h3 := ordI_three (x * d) (c * y); clear hb1 hxa; obtain ⟨r, hr⟩ := exW (ordI (x * d) (c * y)); have HO2 := Hd (HO.o r hr); rw [hr] at h3 ⊢; clear hr HO
 rcases h3 with rfl | rfl | rfl
 ·go_wp2
  go_ret
  exact ⟨ret_bool (by rw [HO2.o]; rfl), HB1.o⟩
 ·cases op
  ·go_wp2
   go_ret
   exact ⟨ret_bool (by rw [HO2.o]; rfl), HB1.o⟩
  go_wp2
  go_ret
  exact ⟨ret_bool (by rw [HO2.o]; rfl), HB1.o⟩
 go_wp2
 go_ret
 exact ⟨ret_bool (by rw [HO2.o]; rfl), HB1.o⟩
set_option maxRecDepth 100000 in
set_option maxHeartbeats 2000000 in
theorem admitsAbove_any (z zx : Value) (hs op : Bool) (c d x y : Int) (n : Nat) (w : World) (h : IsE w z hs op c d n) (hq : IsQR 0 w zx x y n) (hn : n ≤ 10000) (hSP : SP w) :
 Calls Tryz.prog 118 #[z, zx] w fun e w' => e = .returned (.bool (admB hs op (-c) d (-x) y)) ∧ Up w w' := by
 obtain ⟨s1, p1, l1, c1, s2, p2, l2, c2, rfl, h1, h2⟩ := h; obtain ⟨s3, p3, l3, c3, s4, p4, l4, c4, rfl, h3, h4⟩ := hq.shape; have H1 := Hd h1; have H2 := Hd h2; have H3 := Hd h3; have H4 := Hd h4; have HSP := Hd hSP; clear h1 h2 h3 h4 hq hSP; obtain ⟨W0, hW0⟩ := exW ((w.alloc (.cells #[.bool hs, .bool op, .bool s1, .slice p1 l1 c1, .bool s2, .slice p2 l2 c2] 82)).alloc (.cells #[.bool s3, .slice p3 l3 c3, .bool s4, .slice p4 l4 c4] 64)); have HW0 := Hd hW0; have HB0 : Hid (Up w W0) := by unfold Hid; rw [← hW0]; exact below_al (below_alloc _ _) _
 have HS0 : Hid (W0.heap.size = w.heap.size + 2) := by show W0.heap.size = _; rw [← hW0]; simp
 have hx0_0 : Bx W0 (w.heap.size) [.bool hs, .bool op, .bool s1, .slice p1 l1 c1, .bool s2, .slice p2 l2 c2] := by
  rw [← hW0]; exact (bx_new w _ _).alloc _
 have hx0_1 : Bx W0 (w.heap.size + 1) [.bool s3, .slice p3 l3 c3, .bool s4, .slice p4 l4 c4] := by
  rw [← hW0]; have h := bx_new (w.alloc (.cells #[.bool hs, .bool op, .bool s1, .slice p1 l1 c1, .bool s2, .slice p2 l2 c2] 82)) [.bool s3, .slice p3 l3 c3, .bool s4, .slice p4 l4 c4] 64; rw [World.size_alloc] at h; exact h
 have HX0 : Hid (∀ W, Up W0 W → Bx W (w.heap.size) [.bool hs, .bool op, .bool s1, .slice p1 l1 c1, .bool s2, .slice p2 l2 c2] ∧ Bx W (w.heap.size + 1) [.bool s3, .slice p3 l3 c3, .bool s4, .slice p4 l4 c4]) := fun W hW => ⟨hx0_0.below hx0_0.lt hW, hx0_1.below hx0_1.lt hW⟩; obtain ⟨k0, k1, k2, k3, k4, k5⟩ := hx0_0.c6; obtain ⟨j0, j1, j2, j3⟩ := hx0_1.c4; clear hW0 hx0_0 hx0_1; have T1 : Hid (∀ W, Up W0 W → Calls Tryz.prog 121 #[.agg #[.bool hs, .bool op, .bool s1, .slice p1 l1 c1, .bool s2, .slice p2 l2 c2]] W (fun e w' => ∃ z', e = .returned z' ∧ IsE w' z' hs op (-c) d n ∧ Up W w')) := fun W hW => mirrored_any _ hs op c d n W ⟨_, _, _, _, _, _, _, _, rfl, (H1.o.below HB0.o).below hW, (H2.o.below HB0.o).below hW⟩; have T2 : Hid (∀ W, Up W0 W → Calls Tryz.prog 122 #[.agg #[.bool s3, .slice p3 l3 c3, .bool s4, .slice p4 l4 c4]] W (fun e w' => ∃ z', e = .returned z' ∧ IsQR 0 w' z' (-x) y n ∧ Up W w')) := fun W hW => negQ_any _ x y n W (qr_mk ((H3.o.below HB0.o).below hW) ((H4.o.below HB0.o).below hW))
 go_enter Tryz.func118, Tryz.ntmps118
 go_upto_region 1 with fail
 rw [HW0.o]
 go_wp2_with fail
 go_region_held3 (fun W => W.cell? ⟨w.heap.size, 0, none⟩ = some (.bool hs) ∧ W.cell? ⟨w.heap.size, 1, none⟩ = some (.bool op) ∧ W.cell? ⟨w.heap.size, 2, none⟩ = some (.bool s1) ∧ W.cell? ⟨w.heap.size, 3, none⟩ = some (.slice p1 l1 c1) ∧ W.cell? ⟨w.heap.size, 4, none⟩ = some (.bool s2) ∧ W.cell? ⟨w.heap.size, 5, none⟩ = some (.slice p2 l2 c2) ∧ W.cell? ⟨w.heap.size + 1, 0, none⟩ = some (.bool s3) ∧ W.cell? ⟨w.heap.size + 1, 1, none⟩ = some (.slice p3 l3 c3) ∧ W.cell? ⟨w.heap.size + 1, 2, none⟩ = some (.bool s4) ∧ W.cell? ⟨w.heap.size + 1, 3, none⟩ = some (.slice p4 l4 c4)) (first
  | with_reducible assumption | go_keep) (first
  | (go_at_call 121
     refine (T1.o _ ?_).mono ?_
     ·exact (Below.refl _ W0).drew
     rintro e wt1 ⟨u1, rfl, hu, hb⟩; have HU1 := Hd hu; have HQ1 : Hid (Up W0 wt1) := (Below.refl _ W0).drew.trans hb; have hxa := HX0.o wt1 HQ1.o; have hS0 := cc6_4 hxa.1 hxa.2; clear hu hb hxa)
  | (go_at_call 122
     refine (T2.o _ ?_).mono ?_
     ·exact HQ1.o
     rintro e wt2 ⟨u2, rfl, hu, hb⟩; have HU2 := Hd hu; have HV1 := Hd (HU1.o.below hb); have HQ2 : Hid (Up W0 wt2) := HQ1.o.trans (hb.mono HQ1.o.size); have hxa := HX0.o wt2 HQ2.o; have hS1 := cc6_4 hxa.1 hxa.2; clear hu hb hxa)
  | (go_at_call 120
     refine (admitsBelow_any _ _ hs op (-c) d (-x) y n _ HV1.o HU2.o hn ((HSP.o.below HB0.o).below HQ2.o)).mono ?_; rintro e wm ⟨rfl, hb⟩; have HQM : Hid (Up W0 wm) := HQ2.o.trans (hb.mono HQ2.o.size); have hxa := HX0.o wm HQM.o; have hS2 := cc6_4 hxa.1 hxa.2; clear hb hxa))
 all_goals
  try simp only [List.getElem_toArray, List.getElem_cons_succ, List.getElem_cons_zero, Act.put, List.setIfInBounds_toArray, List.set_cons_succ, List.set_cons_zero]
  go_wp2
  go_ret
  exact ⟨rfl, HB0.o.trans (HQM.o.mono HB0.o.size)⟩
theorem bx_newD (W : World) (l : List Value) (ty : TypeId) : Bx (W.alloc (.cells l.toArray ty)).drew W.heap.size l := (bx_new W l ty).drew
theorem zero_len {B : Nat} {w : World} {s : Bool} {p : Option Addr} {l c : Nat} {x : Int} {n : Nat} (h : IsI B w (.agg #[.bool s, .slice p l c]) x n) : ((l : Int) == 0) = decide (x = 0) := by
 obtain ⟨neg, v, t, e, hL, ht, hv, _⟩ := h; obtain ⟨a, cap, e2, _⟩ := hL; have e3 : Value.slice p l c = v := by
  have := congrArg (fun z => match z with | .agg c => c[1]? | _ => none) e
  simpa using this
 rw [e2] at e3; obtain ⟨rfl, rfl, rfl⟩ : p = a ∧ l = t.length ∧ c = cap := by simpa using e3
 rw [← hv]; have := sg_zero_iff neg t ht
 by_cases h0 : t = []
 ·rw [decide_eq_true (this.2 h0), h0]; rfl
 rw [decide_eq_false (fun e => h0 (this.1 e))]; have : t.length ≠ 0 := fun e => h0 (List.eq_nil_of_length_eq_zero e); rw [beq_eq_false_iff_ne]; omega
theorem putS_8_2 {W : World} {a0 a1 a2 a3 a4 a5 a6 a7 : Addr} {v0 v1 v2 v3 v4 v5 v6 v7 : Value} (m : W.cell? a0 = some v0 ∧ W.cell? a1 = some v1 ∧ W.cell? a2 = some v2 ∧ W.cell? a3 = some v3 ∧ W.cell? a4 = some v4 ∧ W.cell? a5 = some v5 ∧ W.cell? a6 = some v6 ∧ W.cell? a7 = some v7) (g : Nat) (h : g ≠ a0.block ∧ g ≠ a1.block ∧ g ≠ a2.block ∧ g ≠ a3.block ∧ g ≠ a4.block ∧ g ≠ a5.block ∧ g ≠ a6.block ∧ g ≠ a7.block) (u0 u1 : Value) : ((W.setCell ⟨g, 0, none⟩ (u0)).setCell ⟨g, 1, none⟩ (u1)).cell? a0 = some v0 ∧ ((W.setCell ⟨g, 0, none⟩ (u0)).setCell ⟨g, 1, none⟩ (u1)).cell? a1 = some v1 ∧ ((W.setCell ⟨g, 0, none⟩ (u0)).setCell ⟨g, 1, none⟩ (u1)).cell? a2 = some v2 ∧ ((W.setCell ⟨g, 0, none⟩ (u0)).setCell ⟨g, 1, none⟩ (u1)).cell? a3 = some v3 ∧ ((W.setCell ⟨g, 0, none⟩ (u0)).setCell ⟨g, 1, none⟩ (u1)).cell? a4 = some v4 ∧ ((W.setCell ⟨g, 0, none⟩ (u0)).setCell ⟨g, 1, none⟩ (u1)).cell? a5 = some v5 ∧ ((W.setCell ⟨g, 0, none⟩ (u0)).setCell ⟨g, 1, none⟩ (u1)).cell? a6 = some v6 ∧ ((W.setCell ⟨g, 0, none⟩ (u0)).setCell ⟨g, 1, none⟩ (u1)).cell? a7 = some v7 :=
 ⟨cell_farC2 g m.1 h.1 _ _, cell_farC2 g m.2.1 h.2.1 _ _, cell_farC2 g m.2.2.1 h.2.2.1 _ _, cell_farC2 g m.2.2.2.1 h.2.2.2.1 _ _, cell_farC2 g m.2.2.2.2.1 h.2.2.2.2.1 _ _, cell_farC2 g m.2.2.2.2.2.1 h.2.2.2.2.2.1 _ _, cell_farC2 g m.2.2.2.2.2.2.1 h.2.2.2.2.2.2.1 _ _, cell_farC2 g m.2.2.2.2.2.2.2 h.2.2.2.2.2.2.2 _ _⟩
theorem putS_8_6 {W : World} {a0 a1 a2 a3 a4 a5 a6 a7 : Addr} {v0 v1 v2 v3 v4 v5 v6 v7 : Value} (m : W.cell? a0 = some v0 ∧ W.cell? a1 = some v1 ∧ W.cell? a2 = some v2 ∧ W.cell? a3 = some v3 ∧ W.cell? a4 = some v4 ∧ W.cell? a5 = some v5 ∧ W.cell? a6 = some v6 ∧ W.cell? a7 = some v7) (g : Nat) (h : g ≠ a0.block ∧ g ≠ a1.block ∧ g ≠ a2.block ∧ g ≠ a3.block ∧ g ≠ a4.block ∧ g ≠ a5.block ∧ g ≠ a6.block ∧ g ≠ a7.block) (u0 u1 u2 u3 u4 u5 : Value) : ((((((W.setCell ⟨g, 0, none⟩ (u0)).setCell ⟨g, 1, none⟩ (u1)).setCell ⟨g, 2, none⟩ (u2)).setCell ⟨g, 3, none⟩ (u3)).setCell ⟨g, 4, none⟩ (u4)).setCell ⟨g, 5, none⟩ (u5)).cell? a0 = some v0 ∧ ((((((W.setCell ⟨g, 0, none⟩ (u0)).setCell ⟨g, 1, none⟩ (u1)).setCell ⟨g, 2, none⟩ (u2)).setCell ⟨g, 3, none⟩ (u3)).setCell ⟨g, 4, none⟩ (u4)).setCell ⟨g, 5, none⟩ (u5)).cell? a1 = some v1 ∧ ((((((W.setCell ⟨g, 0, none⟩ (u0)).setCell ⟨g, 1, none⟩ (u1)).setCell ⟨g, 2, none⟩ (u2)).setCell ⟨g, 3, none⟩ (u3)).setCell ⟨g, 4, none⟩ (u4)).setCell ⟨g, 5, none⟩ (u5)).cell? a2 = some v2 ∧ ((((((W.setCell ⟨g, 0, none⟩ (u0)).setCell ⟨g, 1, none⟩ (u1)).setCell ⟨g, 2, none⟩ (u2)).setCell ⟨g, 3, none⟩ (u3)).setCell ⟨g, 4, none⟩ (u4)).setCell ⟨g, 5, none⟩ (u5)).cell? a3 = some v3 ∧ ((((((W.setCell ⟨g, 0, none⟩ (u0)).setCell ⟨g, 1, none⟩ (u1)).setCell ⟨g, 2, none⟩ (u2)).setCell ⟨g, 3, none⟩ (u3)).setCell ⟨g, 4, none⟩ (u4)).setCell ⟨g, 5, none⟩ (u5)).cell? a4 = some v4 ∧ ((((((W.setCell ⟨g, 0, none⟩ (u0)).setCell ⟨g, 1, none⟩ (u1)).setCell ⟨g, 2, none⟩ (u2)).setCell ⟨g, 3, none⟩ (u3)).setCell ⟨g, 4, none⟩ (u4)).setCell ⟨g, 5, none⟩ (u5)).cell? a5 = some v5 ∧ ((((((W.setCell ⟨g, 0, none⟩ (u0)).setCell ⟨g, 1, none⟩ (u1)).setCell ⟨g, 2, none⟩ (u2)).setCell ⟨g, 3, none⟩ (u3)).setCell ⟨g, 4, none⟩ (u4)).setCell ⟨g, 5, none⟩ (u5)).cell? a6 = some v6 ∧ ((((((W.setCell ⟨g, 0, none⟩ (u0)).setCell ⟨g, 1, none⟩ (u1)).setCell ⟨g, 2, none⟩ (u2)).setCell ⟨g, 3, none⟩ (u3)).setCell ⟨g, 4, none⟩ (u4)).setCell ⟨g, 5, none⟩ (u5)).cell? a7 = some v7 :=
 ⟨cell_farC6 g m.1 h.1 _ _ _ _ _ _, cell_farC6 g m.2.1 h.2.1 _ _ _ _ _ _, cell_farC6 g m.2.2.1 h.2.2.1 _ _ _ _ _ _, cell_farC6 g m.2.2.2.1 h.2.2.2.1 _ _ _ _ _ _, cell_farC6 g m.2.2.2.2.1 h.2.2.2.2.1 _ _ _ _ _ _, cell_farC6 g m.2.2.2.2.2.1 h.2.2.2.2.2.1 _ _ _ _ _ _, cell_farC6 g m.2.2.2.2.2.2.1 h.2.2.2.2.2.2.1 _ _ _ _ _ _, cell_farC6 g m.2.2.2.2.2.2.2 h.2.2.2.2.2.2.2 _ _ _ _ _ _⟩
set_option maxRecDepth 100000 in
set_option maxHeartbeats 4000000 in
theorem inverseFrom_any (z zf : Value) (hs op : Bool) (x y f : Int) (n m : Nat) (w : World) (h : IsE w z hs op x y n) (hf : IsI 0 w zf f m) (hn : n ≤ 10000) (hm : m ≤ 10000) (hSP : SP w) :
 Calls Tryz.prog 156 #[z, zf] w fun e w' => ∃ z', e = .returned z' ∧ IsE w' z' (decide (x - f * y ≠ 0)) op y (x - f * y) (n + (m + n) + 1) ∧ Up w w' := by
 obtain ⟨s1, p1, l1, c1, s2, p2, l2, c2, rfl, h1, h2⟩ := h; obtain ⟨s5, p5, l5, c5, rfl⟩ := hf.shape; have H1 := Hd h1; have H2 := Hd h2; have HF := Hd hf; have HSP := Hd hSP; clear h1 h2 hf hSP; obtain ⟨W0, hW0⟩ := exW (((w.alloc (.cells #[.bool hs, .bool op, .bool s1, .slice p1 l1 c1, .bool s2, .slice p2 l2 c2] 82)).alloc (.cells #[.bool s5, .slice p5 l5 c5] 46)).alloc (.cells #[.bool false, .bool false, .bool false, .slice none 0 0, .bool false, .slice none 0 0] 82)); have HW0 := Hd hW0; have HB0 : Hid (Up w W0) := by unfold Hid; rw [← hW0]; exact below_al (below_al (below_alloc _ _) _) _
 have HS0 : Hid (W0.heap.size = w.heap.size + 3) := by show W0.heap.size = _; rw [← hW0]; simp
 have hx0_0 : Bx W0 (w.heap.size) [.bool hs, .bool op, .bool s1, .slice p1 l1 c1, .bool s2, .slice p2 l2 c2] := by
  rw [← hW0]; exact ((bx_new w _ _).alloc _).alloc _
 have hx0_1 : Bx W0 (w.heap.size + 1) [.bool s5, .slice p5 l5 c5] := by
  rw [← hW0]; have h := bx_new (w.alloc (.cells #[.bool hs, .bool op, .bool s1, .slice p1 l1 c1, .bool s2, .slice p2 l2 c2] 82)) [.bool s5, .slice p5 l5 c5] 46; rw [World.size_alloc] at h; exact (h).alloc _
 have hx0_2 : Bx W0 (w.heap.size + 1 + 1) [.bool false, .bool false, .bool false, .slice none 0 0, .bool false, .slice none 0 0] := by
  rw [← hW0]; have h := bx_new ((w.alloc (.cells #[.bool hs, .bool op, .bool s1, .slice p1 l1 c1, .bool s2, .slice p2 l2 c2] 82)).alloc (.cells #[.bool s5, .slice p5 l5 c5] 46)) [.bool false, .bool false, .bool false, .slice none 0 0, .bool false, .slice none 0 0] 82; rw [World.size_alloc, World.size_alloc] at h; exact h
 have HX0 : Hid (∀ W, Up W0 W → Bx W (w.heap.size) [.bool hs, .bool op, .bool s1, .slice p1 l1 c1, .bool s2, .slice p2 l2 c2] ∧ Bx W (w.heap.size + 1) [.bool s5, .slice p5 l5 c5] ∧ Bx W (w.heap.size + 1 + 1) [.bool false, .bool false, .bool false, .slice none 0 0, .bool false, .slice none 0 0]) := fun W hW => ⟨hx0_0.below hx0_0.lt hW, hx0_1.below hx0_1.lt hW, hx0_2.below hx0_2.lt hW⟩; have T1 : Hid (∀ W, Up W0 W → Calls Tryz.prog 109 #[.agg #[.bool s5, .slice p5 l5 c5], .agg #[.bool s2, .slice p2 l2 c2]] W (fun e w' => ∃ z, e = .returned z ∧ IsI 0 w' z (f * y) (m + n) ∧ Up W w')) := fun W hW => by
  refine (times_any 0 _ _ f y m n W ((HF.o.below HB0.o).below hW) ((H2.o.below HB0.o).below hW) (by omega) (by omega) ((HSP.o.below HB0.o).below hW)).mono ?_; rintro e w' ⟨z, rfl, hz, hb⟩; exact ⟨z, rfl, hz.mono (Nat.zero_le _) leR, hb⟩
 have T2 : Hid (∀ W zp, Up W0 W → IsI 0 W zp (f * y) (m + n) → Calls Tryz.prog 46 #[.agg #[.bool s1, .slice p1 l1 c1], zp] W (fun e w' => ∃ z, e = .returned z ∧ IsI 0 w' z (x - f * y) (n + (m + n) + 1) ∧ Up W w')) := fun W zp hW hz => by
  refine (minus_any 0 _ _ x (f * y) n (m + n) W ((H1.o.below HB0.o).below hW) hz (by omega) (by omega) ((HSP.o.below HB0.o).below hW)).mono ?_; rintro e w' ⟨z, rfl, hz, hb⟩; exact ⟨z, rfl, hz.mono (Nat.zero_le _) leR, hb⟩
 obtain ⟨k0, k1, k2, k3, k4, k5⟩ := hx0_0.c6; obtain ⟨j0, j1⟩ := hx0_1.c2; have hs0 : w.heap.size + 2 < W0.heap.size := by have := HS0.o; omega
 clear hW0 hx0_0 hx0_1 hx0_2
 go_enter Tryz.func156, Tryz.ntmps156
 go_upto_region 1 with fail
 rw [HW0.o]
 go_cut [5] (fun q5 wx => ∃ (gb : Nat) (t1 : Bool) (a1 : Option Addr) (e1 g1 : Nat), q5 = .pointer (some ⟨gb, 0, none⟩) ∧ W0.heap.size ≤ gb ∧ Bx wx gb [.bool t1, .slice a1 e1 g1] ∧ IsI 0 wx (.agg #[.bool t1, .slice a1 e1 g1]) (x - f * y) (n + (m + n) + 1) ∧ Up W0 wx)
 case first =>
  go_wp2_with fail
  go_region_held3 (fun W => W.cell? ⟨w.heap.size, 0, none⟩ = some (.bool hs) ∧ W.cell? ⟨w.heap.size, 1, none⟩ = some (.bool op) ∧ W.cell? ⟨w.heap.size, 2, none⟩ = some (.bool s1) ∧ W.cell? ⟨w.heap.size, 3, none⟩ = some (.slice p1 l1 c1) ∧ W.cell? ⟨w.heap.size, 4, none⟩ = some (.bool s2) ∧ W.cell? ⟨w.heap.size, 5, none⟩ = some (.slice p2 l2 c2) ∧ W.cell? ⟨w.heap.size + 1, 0, none⟩ = some (.bool s5) ∧ W.cell? ⟨w.heap.size + 1, 1, none⟩ = some (.slice p5 l5 c5)) (first
   | with_reducible assumption | with_reducible exact putS_8_2 (by with_reducible assumption) _ (by dsimp only; omega) _ _ | go_keep) (first
   | (go_at_call 109
      refine (T1.o _ ?_).mono ?_
      ·repeat' (first | exact Below.refl _ _ | refine Below.drew ?_ | refine Below.alloc ?_ ?_ _ | assumption | (simp; done) | (simp; omega))
      rintro e wt1 ⟨u1, rfl, hu, hb⟩; have HU1 := Hd hu; have HQ1 : Hid (Up W0 wt1) := by
       unfold Hid
       refine Below.trans ?_ (hb.mono ?_)
       ·repeat' (first | exact Below.refl _ _ | refine Below.drew ?_ | refine Below.alloc ?_ ?_ _ | assumption | (simp; done) | (simp; omega))
       ·simp
      have HC1 := Hd (fun (gg : Nat) (l : List Value) (hx : Bx _ gg l) => hx.below hx.lt hb); have hz1 := HQ1.o.size
      try (have hnb : Bx wt1 W0.heap.size [.bool false, .slice none 0 0] := by with_reducible exact HC1.o _ _ (bx_newD _ _ _))
      try have HNB := Hd hnb
      try clear hnb
      have hxa := HX0.o wt1 HQ1.o; have hS0 := cc6_2 hxa.1 hxa.2.1; clear hu hb hxa)
   | (go_at_call 46
      refine (T2.o _ _ ?_ ?_).mono ?_
      ·repeat' (first | exact HQ1.o | refine Below.drew ?_ | refine Below.alloc ?_ ?_ _ | assumption | (simp; done) | (simp; omega))
      ·first | exact HU1.o | exact HU1.o.below (below_alloc _ _)
      rintro e wm ⟨u2, rfl, hu, hb⟩; have HU2 := Hd hu; have HQM : Hid (Up W0 wm) := by
       unfold Hid
       refine Below.trans ?_ (hb.mono ?_)
       ·repeat' (first | exact HQ1.o | refine Below.drew ?_ | refine Below.alloc ?_ ?_ _ | assumption | (simp; done) | (simp; omega))
       ·first | exact hz1 | (simp; omega)
      have HC2 := Hd (fun (gg : Nat) (l : List Value) (hx : Bx _ gg l) => hx.below hx.lt hb); have hz2 := HQM.o.size
      try (have hnb : Bx wm W0.heap.size [.bool false, .slice none 0 0] := by with_reducible exact HC2.o _ _ HNB.o)
      try (have hnb : Bx wm wt1.heap.size [.bool false, .slice none 0 0] := by with_reducible exact HC2.o _ _ (bx_new _ _ _))
      try (have n0 := hnb.cell 0; have n1 := hnb.cell 1; have nf0 := hnb.frozen 0; have nf1 := hnb.frozen 1; simp only [List.getElem?_cons_zero, List.getElem?_cons_succ] at n0 n1)
      try have HNC := Hd hnb
      try clear hnb
      obtain ⟨t1, a1, e1, g1, rfl⟩ := hu.shape; have hxa := HX0.o wm HQM.o; have hS1 := cc6_2 hxa.1 hxa.2.1; clear hu hb hxa))
  all_goals
   go_wp2_with fail
   go_meet
   first
    | exact ⟨wm.heap.size, t1, a1, e1, g1, rfl, hz2, bx_new wm _ _, HU2.o.below (below_alloc _ _), HQM.o.alloc HQM.o.size _⟩
    | (have hnb := HNC.o; exact ⟨_, t1, a1, e1, g1, rfl, (by first | exact hz1 | exact leR), (hnb.set 0 _).set 1 _, HU2.o.keeps (noInt_of hnb (by simp)) (noInt_of hnb (by simp)) (keepsC2 wm _ _ _), (HQM.o.setCell (by dsimp only; omega) _).setCell (by dsimp only; omega) _⟩)
 case rest =>
  obtain ⟨gb, t1, a1, e1, g1, rfl, hgb, hbx, hi, hbel⟩ := hcut; have HBX := Hd hbx; have HI := Hd hi; have HA1 := Hd hbel; obtain ⟨bz, hbz⟩ := exW ((e1 : Int) == 0); have HBZ := Hd hbz; have HDZ : Hid ((!bz) = decide (x - f * y ≠ 0)) := by
   show (!bz) = _
   rw [← hbz, zero_len hi]
   by_cases h0 : x - f * y = 0
   ·rw [decide_eq_true h0, decide_eq_false (fun h => h h0)]; rfl
   ·rw [decide_eq_false h0, decide_eq_true h0]; rfl
  have hxa := (HX0.o wc hbel).1; clear k0 k1 k2 k3 k4 k5 j0 j1; obtain ⟨k0, k1, k2, k3, k4, k5⟩ := hxa.c6; obtain ⟨n0, n1⟩ := hbx.c2; clear hbz hi hbel hbx hxa
  go_wp2_with fail
  go_region_held3 (fun W => W.cell? ⟨w.heap.size, 0, none⟩ = some (.bool hs) ∧ W.cell? ⟨w.heap.size, 1, none⟩ = some (.bool op) ∧ W.cell? ⟨w.heap.size, 2, none⟩ = some (.bool s1) ∧ W.cell? ⟨w.heap.size, 3, none⟩ = some (.slice p1 l1 c1) ∧ W.cell? ⟨w.heap.size, 4, none⟩ = some (.bool s2) ∧ W.cell? ⟨w.heap.size, 5, none⟩ = some (.slice p2 l2 c2) ∧ W.cell? ⟨gb, 0, none⟩ = some (.bool t1) ∧ W.cell? ⟨gb, 1, none⟩ = some (.slice a1 e1 g1)) (first
   | with_reducible assumption | with_reducible exact putS_8_6 (by with_reducible assumption) (w.heap.size + 1 + 1) (by dsimp only; omega) _ _ _ _ _ _ | go_keep) (first
   | (go_at_call 47
      refine (isZero_any _ _ _ _ _).mono ?_; rintro e wm ⟨rfl, hwm⟩; rw [HBZ.o]; have HQM : Hid (Up wc wm) := by
       unfold Hid
       rw [hwm]
       repeat' (first | exact Below.refl _ _ | refine Below.drew ?_ | refine Below.alloc ?_ ?_ _ | (simp; done))
      have hxa := HX0.o wm (HA1.o.trans (HQM.o.mono HA1.o.size)); have hxb := HBX.o.below HBX.o.lt HQM.o; have hS0 := cc6_2 hxa.1 hxb; have hxr := hxa.2.2; obtain ⟨r0, r1, r2, r3, r4, r5⟩ := hxr.c6; obtain ⟨rf0, rf1, rf2, rf3, rf4, rf5⟩ := hxr.f6; clear hwm hxa hxb hxr))
  all_goals
   try simp only [List.getElem_toArray, List.getElem_cons_succ, List.getElem_cons_zero, Act.put, List.setIfInBounds_toArray, List.set_cons_succ, List.set_cons_zero]
   go_wp2
   have HA2 := HA1.o.trans (HQM.o.mono HA1.o.size); have hbw := (HX0.o wm HA2).2.2; have hnR : NoInt wm (w.heap.size + 1 + 1) := noInt_of hbw (by simp); have HK := keepsC6 wm (w.heap.size + 1 + 1) (.bool (!bz)) (.bool op) (.bool s2) (.slice p2 l2 c2) (.bool t1) (.slice a1 e1 g1); have hD1 := ((H2.o.below HB0.o).below HA2).keeps hnR hnR HK; have hD2 := (HI.o.below HQM.o).keeps hnR hnR HK; have hB9 := bs6 (HB0.o.trans (HA2.mono HB0.o.size)) (w.heap.size + 1 + 1) (by omega) (.bool (!bz)) (.bool op) (.bool s2) (.slice p2 l2 c2) (.bool t1) (.slice a1 e1 g1); have hZ := hbw.s6 (.bool (!bz)) (.bool op) (.bool s2) (.slice p2 l2 c2) (.bool t1) (.slice a1 e1 g1); generalize (((((wm.setCell ⟨w.heap.size + 1 + 1, 0, none⟩ (.bool (!bz))).setCell ⟨w.heap.size + 1 + 1, 1, none⟩ (.bool op)).setCell ⟨w.heap.size + 1 + 1, 2, none⟩ (.bool s2)).setCell ⟨w.heap.size + 1 + 1, 3, none⟩ (.slice p2 l2 c2)).setCell ⟨w.heap.size + 1 + 1, 4, none⟩ (.bool t1)).setCell ⟨w.heap.size + 1 + 1, 5, none⟩ (.slice a1 e1 g1) = W9 at *; obtain ⟨v0, v1, v2, v3, v4, v5⟩ := hZ.c6; refine bodyPost_ret (v := .agg #[.bool (!bz), .bool op, .bool s2, .slice p2 l2 c2, .bool t1, .slice a1 e1 g1]) ?_ rfl ⟨_, rfl, ⟨_, _, _, _, _, _, _, _, by rw [HDZ.o], hD1.mono leR (by omega), hD2⟩, hB9⟩; simp [results, Tryz.results156, go_sem, v0, v1, v2, v3, v4, v5]
theorem isDiv_ediv {x y q r : Int} (h : IsDiv x y q r) (hy : 0 < y) : q = x / y := by
 obtain ⟨e, r0, r1⟩ := h; rw [e, Int.add_comm, Int.add_mul_ediv_right _ _ (by omega), Int.ediv_eq_zero_of_lt r0 (by omega)]; omega
theorem adm_low {lo : Bool} {a b : Int} {has ho : Bool} {c d : Int} (h : Ends lo a b has ho c d) : admB true lo (-a) b (-(a / b)) 1 = decide (b = 1 ∧ lo = false) := by
 obtain ⟨e1, r0, r1⟩ := div_parts a b h.b0; unfold admB ordI; have k : -(a / b) * b = -(a / b * b) := Int.neg_mul ..; rw [k, Int.mul_one]
 by_cases hb : b = 1
 ·have hq : a / b * b = a := by rw [hb, Int.ediv_one, Int.mul_one]
  rw [hq, if_neg (by omega), if_neg (by omega)]
  cases lo <;> simp [hb]
 have hne : a / b * b ≠ a := fun e => hb (gcd_whole h.g h.b0 e.symm); rw [if_neg (by omega), if_pos (by omega)]; simp [hb]
theorem adm_hi {has ho : Bool} {c d n : Int} : admB has ho c d n 1 = true ↔ has = false ∨ simH ho c d n := by
 unfold admB ordI simH; rw [Int.mul_one]
 rcases Int.lt_trichotomy (n * d) c with h | h | h
 ·rw [if_pos h]; cases has <;> simp [h]
 ·rw [if_neg (by omega), if_neg (by omega)]
  cases has <;> cases ho <;> simp [h]
 rw [if_neg (by omega), if_pos h]; have h1 : ¬ n * d < c := by omega
 have h2 : n * d ≠ c := by omega
 cases has <;> simp [h1, h2]
theorem IsE.tight {w : World} {z : Value} {hs op : Bool} {x y : Int} {n k : Nat} (h : IsE w z hs op x y n) (hx : x.natAbs < lb k) (hy : y.natAbs < lb k) : IsE w z hs op x y k := by
 obtain ⟨s1, p1, l1, c1, s2, p2, l2, c2, e, h1, h2⟩ := h; exact ⟨s1, p1, l1, c1, s2, p2, l2, c2, e, h1.tight hx, h2.tight hy⟩
theorem sim_lt {a c p : Int} {has : Bool} {b d : Int} (h : a.natAbs < lb 281 ∧ b.natAbs < lb 281 ∧ c.natAbs < lb 281 ∧ d.natAbs < lb 281) (hp : 0 < p) (hle : p ≤ a + (if has then c else 1)) : p.natAbs < lb 282 := by
 have h1 := lb_add 281 h.1 h.2.2.1; have h2 := lb_add 281 h.1 (lb_one 281 (by decide)); have h3 : a.natAbs + c.natAbs < lb 282 := h1; have h4 : a.natAbs + 1 < lb 282 := h2
 cases has with
 | true =>
   have h5 : p ≤ a + c := by simpa using hle
   omega
 | false =>
   have h5 : p ≤ a + 1 := by simpa using hle
   omega
theorem IsQR.keeps {w W : World} {z : Value} {x y : Int} {n : Nat} {g h : Nat} (hq : IsQR 0 w z x y n) (n1 : NoInt w g) (n2 : NoInt w h) (k : Keeps g h w W) : IsQR 0 W z x y n := by
 obtain ⟨s1, v1, s2, v2, e, h1, h2⟩ := hq; exact ⟨s1, v1, s2, v2, e, h1.keeps n1 n2 k, h2.keeps n1 n2 k⟩
theorem qr_parts {w : World} {s1 s2 : Bool} {p1 p2 : Option Addr} {l1 c1 l2 c2 : Nat} {x y : Int} {n : Nat} (h : IsQR 0 w (.agg #[.bool s1, .slice p1 l1 c1, .bool s2, .slice p2 l2 c2]) x y n) : IsI 0 w (.agg #[.bool s1, .slice p1 l1 c1]) x n ∧ IsI 0 w (.agg #[.bool s2, .slice p2 l2 c2]) y n := by
 obtain ⟨t1, q1, m1, d1, t2, q2, m2, d2, e, h1, h2⟩ := h.shape; simp only [Value.agg.injEq, Array.mk.injEq, List.cons.injEq, Value.bool.injEq, Value.slice.injEq] at e; obtain ⟨rfl, ⟨rfl, rfl, rfl⟩, rfl, ⟨rfl, rfl, rfl⟩, _⟩ := e; exact ⟨h1, h2⟩
theorem putS_2_4 {W : World} {a0 a1 : Addr} {v0 v1 : Value} (m : W.cell? a0 = some v0 ∧ W.cell? a1 = some v1) (g : Nat) (h : g ≠ a0.block ∧ g ≠ a1.block) (u0 u1 u2 u3 : Value) : ((((W.setCell ⟨g, 0, none⟩ (u0)).setCell ⟨g, 1, none⟩ (u1)).setCell ⟨g, 2, none⟩ (u2)).setCell ⟨g, 3, none⟩ (u3)).cell? a0 = some v0 ∧ ((((W.setCell ⟨g, 0, none⟩ (u0)).setCell ⟨g, 1, none⟩ (u1)).setCell ⟨g, 2, none⟩ (u2)).setCell ⟨g, 3, none⟩ (u3)).cell? a1 = some v1 :=
 ⟨cell_farC4 g m.1 h.1 _ _ _ _, cell_farC4 g m.2 h.2 _ _ _ _⟩
theorem putS_6_4 {W : World} {a0 a1 a2 a3 a4 a5 : Addr} {v0 v1 v2 v3 v4 v5 : Value} (m : W.cell? a0 = some v0 ∧ W.cell? a1 = some v1 ∧ W.cell? a2 = some v2 ∧ W.cell? a3 = some v3 ∧ W.cell? a4 = some v4 ∧ W.cell? a5 = some v5) (g : Nat) (h : g ≠ a0.block ∧ g ≠ a1.block ∧ g ≠ a2.block ∧ g ≠ a3.block ∧ g ≠ a4.block ∧ g ≠ a5.block) (u0 u1 u2 u3 : Value) : ((((W.setCell ⟨g, 0, none⟩ (u0)).setCell ⟨g, 1, none⟩ (u1)).setCell ⟨g, 2, none⟩ (u2)).setCell ⟨g, 3, none⟩ (u3)).cell? a0 = some v0 ∧ ((((W.setCell ⟨g, 0, none⟩ (u0)).setCell ⟨g, 1, none⟩ (u1)).setCell ⟨g, 2, none⟩ (u2)).setCell ⟨g, 3, none⟩ (u3)).cell? a1 = some v1 ∧ ((((W.setCell ⟨g, 0, none⟩ (u0)).setCell ⟨g, 1, none⟩ (u1)).setCell ⟨g, 2, none⟩ (u2)).setCell ⟨g, 3, none⟩ (u3)).cell? a2 = some v2 ∧ ((((W.setCell ⟨g, 0, none⟩ (u0)).setCell ⟨g, 1, none⟩ (u1)).setCell ⟨g, 2, none⟩ (u2)).setCell ⟨g, 3, none⟩ (u3)).cell? a3 = some v3 ∧ ((((W.setCell ⟨g, 0, none⟩ (u0)).setCell ⟨g, 1, none⟩ (u1)).setCell ⟨g, 2, none⟩ (u2)).setCell ⟨g, 3, none⟩ (u3)).cell? a4 = some v4 ∧ ((((W.setCell ⟨g, 0, none⟩ (u0)).setCell ⟨g, 1, none⟩ (u1)).setCell ⟨g, 2, none⟩ (u2)).setCell ⟨g, 3, none⟩ (u3)).cell? a5 = some v5 :=
 ⟨cell_farC4 g m.1 h.1 _ _ _ _, cell_farC4 g m.2.1 h.2.1 _ _ _ _, cell_farC4 g m.2.2.1 h.2.2.1 _ _ _ _, cell_farC4 g m.2.2.2.1 h.2.2.2.1 _ _ _ _, cell_farC4 g m.2.2.2.2.1 h.2.2.2.2.1 _ _ _ _, cell_farC4 g m.2.2.2.2.2 h.2.2.2.2.2 _ _ _ _⟩
theorem putS_14_4 {W : World} {a0 a1 a2 a3 a4 a5 a6 a7 a8 a9 a10 a11 a12 a13 : Addr} {v0 v1 v2 v3 v4 v5 v6 v7 v8 v9 v10 v11 v12 v13 : Value} (m : W.cell? a0 = some v0 ∧ W.cell? a1 = some v1 ∧ W.cell? a2 = some v2 ∧ W.cell? a3 = some v3 ∧ W.cell? a4 = some v4 ∧ W.cell? a5 = some v5 ∧ W.cell? a6 = some v6 ∧ W.cell? a7 = some v7 ∧ W.cell? a8 = some v8 ∧ W.cell? a9 = some v9 ∧ W.cell? a10 = some v10 ∧ W.cell? a11 = some v11 ∧ W.cell? a12 = some v12 ∧ W.cell? a13 = some v13) (g : Nat) (h : g ≠ a0.block ∧ g ≠ a1.block ∧ g ≠ a2.block ∧ g ≠ a3.block ∧ g ≠ a4.block ∧ g ≠ a5.block ∧ g ≠ a6.block ∧ g ≠ a7.block ∧ g ≠ a8.block ∧ g ≠ a9.block ∧ g ≠ a10.block ∧ g ≠ a11.block ∧ g ≠ a12.block ∧ g ≠ a13.block) (u0 u1 u2 u3 : Value) : ((((W.setCell ⟨g, 0, none⟩ (u0)).setCell ⟨g, 1, none⟩ (u1)).setCell ⟨g, 2, none⟩ (u2)).setCell ⟨g, 3, none⟩ (u3)).cell? a0 = some v0 ∧ ((((W.setCell ⟨g, 0, none⟩ (u0)).setCell ⟨g, 1, none⟩ (u1)).setCell ⟨g, 2, none⟩ (u2)).setCell ⟨g, 3, none⟩ (u3)).cell? a1 = some v1 ∧ ((((W.setCell ⟨g, 0, none⟩ (u0)).setCell ⟨g, 1, none⟩ (u1)).setCell ⟨g, 2, none⟩ (u2)).setCell ⟨g, 3, none⟩ (u3)).cell? a2 = some v2 ∧ ((((W.setCell ⟨g, 0, none⟩ (u0)).setCell ⟨g, 1, none⟩ (u1)).setCell ⟨g, 2, none⟩ (u2)).setCell ⟨g, 3, none⟩ (u3)).cell? a3 = some v3 ∧ ((((W.setCell ⟨g, 0, none⟩ (u0)).setCell ⟨g, 1, none⟩ (u1)).setCell ⟨g, 2, none⟩ (u2)).setCell ⟨g, 3, none⟩ (u3)).cell? a4 = some v4 ∧ ((((W.setCell ⟨g, 0, none⟩ (u0)).setCell ⟨g, 1, none⟩ (u1)).setCell ⟨g, 2, none⟩ (u2)).setCell ⟨g, 3, none⟩ (u3)).cell? a5 = some v5 ∧ ((((W.setCell ⟨g, 0, none⟩ (u0)).setCell ⟨g, 1, none⟩ (u1)).setCell ⟨g, 2, none⟩ (u2)).setCell ⟨g, 3, none⟩ (u3)).cell? a6 = some v6 ∧ ((((W.setCell ⟨g, 0, none⟩ (u0)).setCell ⟨g, 1, none⟩ (u1)).setCell ⟨g, 2, none⟩ (u2)).setCell ⟨g, 3, none⟩ (u3)).cell? a7 = some v7 ∧ ((((W.setCell ⟨g, 0, none⟩ (u0)).setCell ⟨g, 1, none⟩ (u1)).setCell ⟨g, 2, none⟩ (u2)).setCell ⟨g, 3, none⟩ (u3)).cell? a8 = some v8 ∧ ((((W.setCell ⟨g, 0, none⟩ (u0)).setCell ⟨g, 1, none⟩ (u1)).setCell ⟨g, 2, none⟩ (u2)).setCell ⟨g, 3, none⟩ (u3)).cell? a9 = some v9 ∧ ((((W.setCell ⟨g, 0, none⟩ (u0)).setCell ⟨g, 1, none⟩ (u1)).setCell ⟨g, 2, none⟩ (u2)).setCell ⟨g, 3, none⟩ (u3)).cell? a10 = some v10 ∧ ((((W.setCell ⟨g, 0, none⟩ (u0)).setCell ⟨g, 1, none⟩ (u1)).setCell ⟨g, 2, none⟩ (u2)).setCell ⟨g, 3, none⟩ (u3)).cell? a11 = some v11 ∧ ((((W.setCell ⟨g, 0, none⟩ (u0)).setCell ⟨g, 1, none⟩ (u1)).setCell ⟨g, 2, none⟩ (u2)).setCell ⟨g, 3, none⟩ (u3)).cell? a12 = some v12 ∧ ((((W.setCell ⟨g, 0, none⟩ (u0)).setCell ⟨g, 1, none⟩ (u1)).setCell ⟨g, 2, none⟩ (u2)).setCell ⟨g, 3, none⟩ (u3)).cell? a13 = some v13 :=
 ⟨cell_farC4 g m.1 h.1 _ _ _ _, cell_farC4 g m.2.1 h.2.1 _ _ _ _, cell_farC4 g m.2.2.1 h.2.2.1 _ _ _ _, cell_farC4 g m.2.2.2.1 h.2.2.2.1 _ _ _ _, cell_farC4 g m.2.2.2.2.1 h.2.2.2.2.1 _ _ _ _, cell_farC4 g m.2.2.2.2.2.1 h.2.2.2.2.2.1 _ _ _ _, cell_farC4 g m.2.2.2.2.2.2.1 h.2.2.2.2.2.2.1 _ _ _ _, cell_farC4 g m.2.2.2.2.2.2.2.1 h.2.2.2.2.2.2.2.1 _ _ _ _, cell_farC4 g m.2.2.2.2.2.2.2.2.1 h.2.2.2.2.2.2.2.2.1 _ _ _ _, cell_farC4 g m.2.2.2.2.2.2.2.2.2.1 h.2.2.2.2.2.2.2.2.2.1 _ _ _ _, cell_farC4 g m.2.2.2.2.2.2.2.2.2.2.1 h.2.2.2.2.2.2.2.2.2.2.1 _ _ _ _, cell_farC4 g m.2.2.2.2.2.2.2.2.2.2.2.1 h.2.2.2.2.2.2.2.2.2.2.2.1 _ _ _ _, cell_farC4 g m.2.2.2.2.2.2.2.2.2.2.2.2.1 h.2.2.2.2.2.2.2.2.2.2.2.2.1 _ _ _ _, cell_farC4 g m.2.2.2.2.2.2.2.2.2.2.2.2.2 h.2.2.2.2.2.2.2.2.2.2.2.2.2 _ _ _ _⟩
set_option maxRecDepth 100000 in
set_option maxHeartbeats 8000000 in
theorem simplestAbove_any (N : Nat) : ∀ (lo : Bool) (a b : Int) (has ho : Bool) (c d : Int) (zl zh : Value) (w : World), (b + (if has then d else 0)).toNat ≤ N → IsE w zl true lo a b 281 → IsE w zh has ho c d 281 → Ends lo a b has ho c d →
 a.natAbs < lb 281 ∧ b.natAbs < lb 281 ∧ c.natAbs < lb 281 ∧ d.natAbs < lb 281 → SP w →
 Calls Tryz.prog 119 #[zl, zh] w fun e w' => ∃ z p q, e = .returned z ∧ IsQR 0 w' z p q 282 ∧ Sim lo a b has ho c d p q ∧ Up w w' := by
 induction N with
 | zero =>
   intro lo a b has ho c d zl zh w hN _ _ hE
   exfalso
   have h1 := hE.b0; have h2 : 0 ≤ (if has then d else 0) := by
    cases has with
    | false => exact Int.le_refl _
    | true => exact Int.le_of_lt (hE.hi rfl).1
   omega
 | succ N ih =>
   intro lo a b has ho c d zl zh w hN hl hh hE hlb hSP; have IH := Hd ih; have HN := Hd hN; have HE := Hd hE; have HLB := Hd hlb; have HSP := Hd hSP; obtain ⟨s1, p1, l1, c1, s2, p2, l2, c2, rfl, h1, h2⟩ := hl; obtain ⟨s3, p3, l3, c3, s4, p4, l4, c4, rfl, h3, h4⟩ := hh; have H1 := Hd h1; have H2 := Hd h2; have H3 := Hd h3; have H4 := Hd h4; have HBP : Hid (0 < b) := hE.b0; clear ih hN hE hlb hSP h1 h2 h3 h4; obtain ⟨W0, hW0⟩ := exW (((w.alloc (.cells #[.bool true, .bool lo, .bool s1, .slice p1 l1 c1, .bool s2, .slice p2 l2 c2] 82)).alloc (.cells #[.bool has, .bool ho, .bool s3, .slice p3 l3 c3, .bool s4, .slice p4 l4 c4] 82)).alloc (.cells #[.bool false, .slice none 0 0, .bool false, .slice none 0 0] 64)); have HW0 := Hd hW0; have HB0 : Hid (Up w W0) := by unfold Hid; rw [← hW0]; exact below_al (below_al (below_alloc _ _) _) _
   have HS0 : Hid (W0.heap.size = w.heap.size + 3) := by show W0.heap.size = _; rw [← hW0]; simp
   have hx0_0 : Bx W0 (w.heap.size) [.bool true, .bool lo, .bool s1, .slice p1 l1 c1, .bool s2, .slice p2 l2 c2] := by
    rw [← hW0]; exact ((bx_new w _ _).alloc _).alloc _
   have hx0_1 : Bx W0 (w.heap.size + 1) [.bool has, .bool ho, .bool s3, .slice p3 l3 c3, .bool s4, .slice p4 l4 c4] := by
    rw [← hW0]; have h := bx_new (w.alloc (.cells #[.bool true, .bool lo, .bool s1, .slice p1 l1 c1, .bool s2, .slice p2 l2 c2] 82)) [.bool has, .bool ho, .bool s3, .slice p3 l3 c3, .bool s4, .slice p4 l4 c4] 82; rw [World.size_alloc] at h; exact (h).alloc _
   have hx0_2 : Bx W0 (w.heap.size + 1 + 1) [.bool false, .slice none 0 0, .bool false, .slice none 0 0] := by
    rw [← hW0]; have h := bx_new ((w.alloc (.cells #[.bool true, .bool lo, .bool s1, .slice p1 l1 c1, .bool s2, .slice p2 l2 c2] 82)).alloc (.cells #[.bool has, .bool ho, .bool s3, .slice p3 l3 c3, .bool s4, .slice p4 l4 c4] 82)) [.bool false, .slice none 0 0, .bool false, .slice none 0 0] 64; rw [World.size_alloc, World.size_alloc] at h; exact h
   have HX0 : Hid (∀ W, Up W0 W → Bx W (w.heap.size) [.bool true, .bool lo, .bool s1, .slice p1 l1 c1, .bool s2, .slice p2 l2 c2] ∧ Bx W (w.heap.size + 1) [.bool has, .bool ho, .bool s3, .slice p3 l3 c3, .bool s4, .slice p4 l4 c4] ∧ Bx W (w.heap.size + 1 + 1) [.bool false, .slice none 0 0, .bool false, .slice none 0 0]) := fun W hW => ⟨hx0_0.below hx0_0.lt hW, hx0_1.below hx0_1.lt hW, hx0_2.below hx0_2.lt hW⟩; obtain ⟨k0, k1, k2, k3, k4, k5⟩ := hx0_0.c6; clear hW0 hx0_0 hx0_1 hx0_2
   go_enter Tryz.func119, Tryz.ntmps119
   go_upto_region 1 with fail
   rw [HW0.o]
   go_wp2_with fail
   refine (floor_any 0 _ a b 281 W0 (Nat.zero_le _) (qr_mk (H1.o.below HB0.o) (H2.o.below HB0.o)) (by decide) (Int.ne_of_gt HBP.o) (HSP.o.below HB0.o)).mono ?_; rintro e w1 ⟨r, f, t, rfl, hr, hdv, hb1⟩; have hf := isDiv_ediv hdv HBP.o; have hfl : f.natAbs < lb 281 := by
    have e0 := HE.o.a0; have e1 : a / b ≤ a := Int.ediv_le_self b e0; have e2 := Int.ediv_nonneg e0 (Int.le_of_lt HBP.o); have e3 := HLB.o.1; rw [hf]; omega
   have HFV := Hd hf; have HFI := Hd (hr.tight hfl); have HFL := Hd hfl; have HC1 := Hd hb1; obtain ⟨s5, p5, l5, c5, rfl⟩ := hr.shape; clear hr hdv hb1 hf hfl k0 k1 k2 k3 k4 k5; obtain ⟨W1, hW1⟩ := exW (w1.alloc (.cells #[.bool s5, .slice p5 l5 c5] 46)); have HW1 := Hd hW1; have HB1 : Hid (Up w1 W1) := by unfold Hid; rw [← hW1]; exact below_alloc _ _
   have HS1 : Hid (W1.heap.size = w1.heap.size + 1) := by show W1.heap.size = _; rw [← hW1]; simp
   have hx1_0 : Bx W1 (w1.heap.size) [.bool s5, .slice p5 l5 c5] := by
    rw [← hW1]; exact bx_new w1 _ _
   have HX1 : Hid (∀ W, Up W1 W → Bx W (w1.heap.size) [.bool s5, .slice p5 l5 c5]) := fun W hW => hx1_0.below hx1_0.lt hW; obtain ⟨i0, i1⟩ := hx1_0.c2; clear hW1 hx1_0
   go_upto_region 2 with fail
   rw [HW1.o]
   go_wp2_with fail
   refine (wholeRational_any s5 p5 l5 c5 W1).mono ?_; rintro e w2 ⟨s6, p6, l6, c6, rfl, hone, hb2⟩; have HONE := Hd (hone.mono (B' := 0) (n' := 281) (Nat.zero_le _) (by decide)); have HC2 := Hd hb2; clear hone hb2 i0 i1; obtain ⟨W2, hW2⟩ := exW (w2.alloc (.cells #[.bool s5, .slice p5 l5 c5, .bool s6, .slice p6 l6 c6] 64)); have HW2 := Hd hW2; have HB2 : Hid (Up w2 W2) := by unfold Hid; rw [← hW2]; exact below_alloc _ _
   have HS2 : Hid (W2.heap.size = w2.heap.size + 1) := by show W2.heap.size = _; rw [← hW2]; simp
   have hx2_0 : Bx W2 (w2.heap.size) [.bool s5, .slice p5 l5 c5, .bool s6, .slice p6 l6 c6] := by
    rw [← hW2]; exact bx_new w2 _ _
   have HX2 : Hid (∀ W, Up W2 W → Bx W (w2.heap.size) [.bool s5, .slice p5 l5 c5, .bool s6, .slice p6 l6 c6]) := fun W hW => hx2_0.below hx2_0.lt hW; have HA1 : Hid (Up W0 W1) := HC1.o.trans (HB1.o.mono HC1.o.size); have HA12 : Hid (Up W1 W2) := HC2.o.trans (HB2.o.mono HC2.o.size); have HA2 : Hid (Up W0 W2) := HA1.o.trans (HA12.o.mono HA1.o.size); have HF2 : Hid (IsI 0 W2 (.agg #[.bool s5, .slice p5 l5 c5]) f 281) := HFI.o.below (HB1.o.trans (HA12.o.mono HB1.o.size)); have HO2 : Hid (IsI 0 W2 (.agg #[.bool s6, .slice p6 l6 c6]) 1 281) := HONE.o.below HB2.o; have hlt1 : w.heap.size + 2 < w1.heap.size := by have := HC1.o.size; have := HS0.o; omega
   have hlt2 : w1.heap.size < w2.heap.size := by have := HC2.o.size; have := HS1.o; omega
   have hb0 := (HX0.o W2 HA2.o).1; obtain ⟨k0, k1, k2, k3, k4, k5⟩ := hb0.c6; obtain ⟨r0, r1, r2, r3⟩ := hx2_0.c4; clear hW2 hx2_0 hb0; have HADM : Hid (admB true lo (-a) b (-f) 1 = decide (b = 1 ∧ lo = false)) := by show _ = _; rw [HFV.o]; exact adm_low HE.o
   go_upto_region 3 with fail
   rw [HW2.o]
   go_wp2_with fail
   refine (admitsAbove_any _ _ true lo a b f 1 281 W2 ⟨_, _, _, _, _, _, _, _, rfl, (H1.o.below HB0.o).below HA2.o, (H2.o.below HB0.o).below HA2.o⟩ (qr_mk HF2.o HO2.o) (by decide) ((HSP.o.below HB0.o).below HA2.o)).mono ?_; rintro e w3 ⟨rfl, hb3⟩; have HC3 := Hd hb3; have HA3 : Hid (Up W0 w3) := HA2.o.trans (hb3.mono HA2.o.size); have HF3 := Hd (HF2.o.below hb3); have HO3 := Hd (HO2.o.below hb3); rw [HADM.o]; clear hb3 k0 k1 k2 k3 k4 k5 r0 r1 r2 r3; have hx5 := HX1.o w3 (HA12.o.trans (HC3.o.mono HA12.o.size)); have hx6 := HX2.o w3 HC3.o; have HB5 := Hd hx5; have HB6 := Hd hx6
   by_cases hq : b = 1 ∧ lo = false
   ·rw [decide_eq_true hq]; have HSN : Hid (simN lo a b = f) := by
     unfold Hid
     unfold simN; rw [if_pos hq, HFV.o, hq.1, Int.ediv_one]
    have HTR : Hid (admB has ho c d f 1 = true) := by
     show _ = true
     rw [adm_hi]
     cases hh : has with
     | false => exact .inl rfl
     | true =>
       refine .inr ?_; have hE := HE.o; rw [hh] at hE
       by_cases hs : simH ho c d (simN lo a b)
       ·rw [HSN.o] at hs; exact hs
       ·exfalso
        have := (ends_step hE hs).1; rw [HSN.o, HFV.o] at this; omega
    clear hq hx5; have hb1 := (HX0.o w3 HA3.o).2.1; obtain ⟨j0, j1, j2, j3, j4, j5⟩ := hb1.c6; obtain ⟨m0, m1, m2, m3⟩ := hx6.c4; clear hb1
    go_wp2_with fail
    refine (admitsBelow_any _ _ has ho c d f 1 281 w3 ⟨_, _, _, _, _, _, _, _, rfl, ((H3.o.below HB0.o).below HA3.o).mono leR (by decide), ((H4.o.below HB0.o).below HA3.o).mono leR (by decide)⟩ (qr_mk HF3.o HO3.o) (by decide) ((HSP.o.below HB0.o).below HA3.o)).mono ?_; rintro e w4 ⟨rfl, hb4⟩; have HA4 : Hid (Up W0 w4) := HA3.o.trans (hb4.mono HA3.o.size); have HV4 := Hd (HF3.o.below hb4); have HO4 := Hd (HO3.o.below hb4); have hbr := (HX0.o w4 HA4.o).2.2; have hb6 := HB6.o.below HB6.o.lt hb4; rw [HTR.o]; clear hb4 j0 j1 j2 j3 j4 j5 m0 m1 m2 m3 hx6; obtain ⟨m0, m1, m2, m3⟩ := hb6.c4; obtain ⟨q0, q1, q2, q3⟩ := hbr.c4; obtain ⟨qf0, qf1, qf2, qf3⟩ := hbr.f4
    go_wp2
    have hnR : NoInt w4 (w.heap.size + 1 + 1) := noInt_of hbr (by simp); have HK := keepsC4 w4 (w.heap.size + 1 + 1) (.bool s5) (.slice p5 l5 c5) (.bool s6) (.slice p6 l6 c6); have hD1 := HV4.o.keeps hnR hnR HK; have hD2 := HO4.o.keeps hnR hnR HK; have hB9 := bs4 (HB0.o.trans (HA4.o.mono HB0.o.size)) (w.heap.size + 1 + 1) (by omega) (.bool s5) (.slice p5 l5 c5) (.bool s6) (.slice p6 l6 c6); have hZ9 := hbr.s4 (.bool s5) (.slice p5 l5 c5) (.bool s6) (.slice p6 l6 c6); generalize (((w4.setCell ⟨w.heap.size + 1 + 1, 0, none⟩ (.bool s5)).setCell ⟨w.heap.size + 1 + 1, 1, none⟩ (.slice p5 l5 c5)).setCell ⟨w.heap.size + 1 + 1, 2, none⟩ (.bool s6)).setCell ⟨w.heap.size + 1 + 1, 3, none⟩ (.slice p6 l6 c6) = W9 at *; obtain ⟨v0, v1, v2, v3⟩ := hZ9.c4; have hsim : Sim lo a b has ho c d (simN lo a b) 1 := Sim.found lo a b has ho c d (adm_hi.1 (by rw [HSN.o]; exact HTR.o)); have hbd := hsim.bound HE.o; rw [HSN.o] at hsim hbd; refine bodyPost_ret (v := .agg #[.bool s5, .slice p5 l5 c5, .bool s6, .slice p6 l6 c6]) ?_ rfl ⟨_, f, 1, rfl, (qr_mk hD1 hD2).tight (sim_lt HLB.o hbd.1 hbd.2.2.1) (lb_one 282 (by decide)), hsim, hB9⟩; simp [results, Tryz.results119, go_sem, v0, v1, v2, v3]
   ·rw [decide_eq_false hq]; have HSN : Hid (simN lo a b = f + 1) := by
     unfold Hid
     unfold simN; rw [if_neg hq, HFV.o]
    obtain ⟨hc5, hd5⟩ := hx5.c2; clear hq hx5 hx6
    go_wp2_with fail
    go_region_held3 (fun W => W.cell? ⟨w1.heap.size, 0, none⟩ = some (.bool s5) ∧ W.cell? ⟨w1.heap.size, 1, none⟩ = some (.slice p5 l5 c5)) (first
     | with_reducible assumption | with_reducible exact putS_2_4 (by with_reducible assumption) (w2.heap.size) (by dsimp only; omega) _ _ _ _ | go_keep) (first
     | (go_at_call 154
        refine (wholeNumber_any 1 _ (by decide)).mono ?_; rintro e wt1 ⟨u1, rfl, hu, hb⟩; have HU1 := Hd (hu.mono (B' := 0) (n' := 281) (Nat.zero_le _) (by decide)); have HQ1 : Hid (Up w3 wt1) := (Below.refl _ w3).drew.trans hb; have hxa := HB5.o.below HB5.o.lt HQ1.o; have hS0 := cc2 hxa; clear hu hb hxa)
     | (go_at_call 40
        refine (plus_any 0 _ _ f 1 281 281 _ (HF3.o.below HQ1.o) HU1.o (by decide) (by decide) (((HSP.o.below HB0.o).below HA3.o).below HQ1.o)).mono ?_; rintro e wt2 ⟨u2, rfl, hu, hb⟩; have HU2 := Hd (hu.mono (B' := 0) (n' := 600) (Nat.zero_le _) (by decide)); have HQ2 : Hid (Up w3 wt2) := HQ1.o.trans (hb.mono HQ1.o.size); have hxa := HB5.o.below HB5.o.lt HQ2.o; have hS1 := cc2 hxa; obtain ⟨s7, p7, l7, c7, rfl⟩ := hu.shape; clear hu hb hxa)
     | (go_at_call 117
        refine (wholeRational_any s7 p7 l7 c7 _).mono ?_; rintro e wm ⟨s8, p8, l8, c8, rfl, hone, hb⟩; have HU3 := Hd (hone.mono (B' := 0) (n' := 600) (Nat.zero_le _) (by decide)); have HU4 := Hd (HU2.o.below hb); have HQM : Hid (Up w3 wm) := HQ2.o.trans (hb.mono HQ2.o.size); have hxa := HB5.o.below HB5.o.lt HQM.o; have hS2 := cc2 hxa; have hxb := HB6.o.below HB6.o.lt HQM.o; obtain ⟨r0, r1, r2, r3⟩ := hxb.c4; obtain ⟨rf0, rf1, rf2, rf3⟩ := hxb.f4; clear hone hb hxa hxb))
    all_goals
     try simp only [List.getElem_toArray, List.getElem_cons_succ, List.getElem_cons_zero, Act.put, List.setIfInBounds_toArray, List.set_cons_succ, List.set_cons_zero]
     have hxb := HB6.o.below HB6.o.lt HQM.o; have hnR : NoInt wm w2.heap.size := noInt_of hxb (by simp); have HK := keepsC4 wm w2.heap.size (.bool s7) (.slice p7 l7 c7) (.bool s8) (.slice p8 l8 c8); have hF5 := (HF3.o.below HQM.o).keeps hnR hnR HK; have hN5 := HU4.o.keeps hnR hnR HK; have hO5 := HU3.o.keeps hnR hnR HK; have hB5 : Up W1 ((((wm.setCell ⟨w2.heap.size, 0, none⟩ (.bool s7)).setCell ⟨w2.heap.size, 1, none⟩ (.slice p7 l7 c7)).setCell ⟨w2.heap.size, 2, none⟩ (.bool s8)).setCell ⟨w2.heap.size, 3, none⟩ (.slice p8 l8 c8)) := (((((HA12.o.trans ((HC3.o.trans (HQM.o.mono HC3.o.size)).mono HA12.o.size)).setCell (p := ⟨w2.heap.size, 0, none⟩) (by dsimp only; have := HC2.o.size; omega) (.bool s7)).setCell (p := ⟨w2.heap.size, 1, none⟩) (by dsimp only; have := HC2.o.size; omega) (.slice p7 l7 c7)).setCell (p := ⟨w2.heap.size, 2, none⟩) (by dsimp only; have := HC2.o.size; omega) (.bool s8)).setCell (p := ⟨w2.heap.size, 3, none⟩) (by dsimp only; have := HC2.o.size; omega) (.slice p8 l8 c8)); have hZ := hxb.s4 (.bool s7) (.slice p7 l7 c7) (.bool s8) (.slice p8 l8 c8); clear r0 r1 r2 r3 rf0 rf1 rf2 rf3 hS0 hS1 hS2 hc5 hd5 HK hnR hxb; generalize (((wm.setCell ⟨w2.heap.size, 0, none⟩ (.bool s7)).setCell ⟨w2.heap.size, 1, none⟩ (.slice p7 l7 c7)).setCell ⟨w2.heap.size, 2, none⟩ (.bool s8)).setCell ⟨w2.heap.size, 3, none⟩ (.slice p8 l8 c8) = W5 at *; have HB15 := Hd hB5; have HA5 : Hid (Up W0 W5) := HA1.o.trans (hB5.mono HA1.o.size); have HF5 := Hd hF5; have HN5 := Hd hN5; have HO5 := Hd hO5; have HB65 := Hd hZ; have HB55 := Hd (HX1.o W5 hB5); clear hB5 hF5 hN5 hO5
     by_cases hfd : has = false ∨ simH ho c d (simN lo a b)
     ·have HTR : Hid (admB has ho c d (f + 1) 1 = true) := by show _ = true; rw [adm_hi, ← HSN.o]; exact hfd
      have HFD := Hd hfd; clear hfd; have hb1 := (HX0.o W5 HA5.o).2.1; obtain ⟨j0, j1, j2, j3, j4, j5⟩ := hb1.c6; obtain ⟨m0, m1, m2, m3⟩ := hZ.c4; clear hb1
      go_wp2_with fail
      refine (admitsBelow_any _ _ has ho c d (f + 1) 1 600 W5 ⟨_, _, _, _, _, _, _, _, rfl, ((H3.o.below HB0.o).below HA5.o).mono leR (by decide), ((H4.o.below HB0.o).below HA5.o).mono leR (by decide)⟩ (qr_mk HN5.o HO5.o) (by decide) ((HSP.o.below HB0.o).below HA5.o)).mono ?_; rintro e w4 ⟨rfl, hb4⟩; have HA4 : Hid (Up W0 w4) := HA5.o.trans (hb4.mono HA5.o.size); have HV4 := Hd (HN5.o.below hb4); have HO4 := Hd (HO5.o.below hb4); have hbr := (HX0.o w4 HA4.o).2.2; have hb6 := HB65.o.below HB65.o.lt hb4; rw [HTR.o]; clear hb4 j0 j1 j2 j3 j4 j5 m0 m1 m2 m3 hZ; obtain ⟨m0, m1, m2, m3⟩ := hb6.c4; obtain ⟨q0, q1, q2, q3⟩ := hbr.c4; obtain ⟨qf0, qf1, qf2, qf3⟩ := hbr.f4
      go_wp2
      have hnR : NoInt w4 (w.heap.size + 1 + 1) := noInt_of hbr (by simp); have HK := keepsC4 w4 (w.heap.size + 1 + 1) (.bool s7) (.slice p7 l7 c7) (.bool s8) (.slice p8 l8 c8); have hD1 := HV4.o.keeps hnR hnR HK; have hD2 := HO4.o.keeps hnR hnR HK; have hB9 := bs4 (HB0.o.trans (HA4.o.mono HB0.o.size)) (w.heap.size + 1 + 1) (by omega) (.bool s7) (.slice p7 l7 c7) (.bool s8) (.slice p8 l8 c8); have hZ9 := hbr.s4 (.bool s7) (.slice p7 l7 c7) (.bool s8) (.slice p8 l8 c8); generalize (((w4.setCell ⟨w.heap.size + 1 + 1, 0, none⟩ (.bool s7)).setCell ⟨w.heap.size + 1 + 1, 1, none⟩ (.slice p7 l7 c7)).setCell ⟨w.heap.size + 1 + 1, 2, none⟩ (.bool s8)).setCell ⟨w.heap.size + 1 + 1, 3, none⟩ (.slice p8 l8 c8) = W9 at *; obtain ⟨v0, v1, v2, v3⟩ := hZ9.c4; have hsim : Sim lo a b has ho c d (simN lo a b) 1 := Sim.found lo a b has ho c d (adm_hi.1 (by rw [HSN.o]; exact HTR.o)); have hbd := hsim.bound HE.o; rw [HSN.o] at hsim hbd; refine bodyPost_ret (v := .agg #[.bool s7, .slice p7 l7 c7, .bool s8, .slice p8 l8 c8]) ?_ rfl ⟨_, (f + 1), 1, rfl, (qr_mk hD1 hD2).tight (sim_lt HLB.o hbd.1 hbd.2.2.1) (lb_one 282 (by decide)), hsim, hB9⟩; simp [results, Tryz.results119, go_sem, v0, v1, v2, v3]
     ·have HTR : Hid (admB has ho c d (f + 1) 1 = false) := by
       show _ = false
       rw [← Bool.not_eq_true, adm_hi, ← HSN.o]; exact hfd
      have HFD := Hd hfd; clear hfd; obtain rfl : has = true := by
       cases has with
       | false => exact absurd (.inl rfl) HFD.o
       | true => rfl
      have hst := ends_step HE.o (fun h => HFD.o (.inr h)); rw [← HFV.o] at hst; have HST := Hd hst; clear hst; have hb1 := (HX0.o W5 HA5.o).2.1; obtain ⟨j0, j1, j2, j3, j4, j5⟩ := hb1.c6; obtain ⟨m0, m1, m2, m3⟩ := hZ.c4; clear hb1
      go_wp2_with fail
      refine (admitsBelow_any _ _ true ho c d (f + 1) 1 600 W5 ⟨_, _, _, _, _, _, _, _, rfl, ((H3.o.below HB0.o).below HA5.o).mono leR (by decide), ((H4.o.below HB0.o).below HA5.o).mono leR (by decide)⟩ (qr_mk HN5.o HO5.o) (by decide) ((HSP.o.below HB0.o).below HA5.o)).mono ?_; rintro e w4 ⟨rfl, hb4⟩; have HA4 : Hid (Up W0 w4) := HA5.o.trans (hb4.mono HA5.o.size); have HF4 := Hd (HF5.o.below hb4); have HB54 := Hd (HB55.o.below HB55.o.lt hb4); have hlt4 : w1.heap.size < w4.heap.size := HB54.o.lt; rw [HTR.o]; clear hb4 j0 j1 j2 j3 j4 j5 m0 m1 m2 m3 hZ; have T7a : Hid (∀ W, Up w4 W → Calls Tryz.prog 156 #[.agg #[.bool true, .bool ho, .bool s3, .slice p3 l3 c3, .bool s4, .slice p4 l4 c4], .agg #[.bool s5, .slice p5 l5 c5]] W (fun e w' => ∃ z', e = .returned z' ∧ IsE w' z' true ho d (c - f * d) 281 ∧ Up W w')) := fun W hW => by
       refine (inverseFrom_any _ _ true ho c d f 281 281 W ⟨_, _, _, _, _, _, _, _, rfl, ((H3.o.below HB0.o).below HA4.o).below hW, ((H4.o.below HB0.o).below HA4.o).below hW⟩ (HF4.o.below hW) (by decide) (by decide) (((HSP.o.below HB0.o).below HA4.o).below hW)).mono ?_; rintro e w' ⟨z, rfl, hz, hb⟩; have e1 := HST.o.2.1; have e2 := HST.o.2.2.1; have e3 := HLB.o.2.2.2; have hd : decide (c - f * d ≠ 0) = true := decide_eq_true (by omega); rw [hd] at hz; exact ⟨z, rfl, hz.tight e3 (by omega), hb⟩
      have T7b : Hid (∀ W, Up w4 W → Calls Tryz.prog 156 #[.agg #[.bool true, .bool lo, .bool s1, .slice p1 l1 c1, .bool s2, .slice p2 l2 c2], .agg #[.bool s5, .slice p5 l5 c5]] W (fun e w' => ∃ z', e = .returned z' ∧ IsE w' z' (decide (a - f * b ≠ 0)) lo b (a - f * b) 281 ∧ Up W w')) := fun W hW => by
       refine (inverseFrom_any _ _ true lo a b f 281 281 W ⟨_, _, _, _, _, _, _, _, rfl, ((H1.o.below HB0.o).below HA4.o).below hW, ((H2.o.below HB0.o).below HA4.o).below hW⟩ (HF4.o.below hW) (by decide) (by decide) (((HSP.o.below HB0.o).below HA4.o).below hW)).mono ?_; rintro e w' ⟨z, rfl, hz, hb⟩; have e1 := div_parts a b HBP.o; rw [← HFV.o] at e1; have e3 := HLB.o.2.1; exact ⟨z, rfl, hz.tight e3 (by omega), hb⟩
      have T7c : Hid (∀ W za zb, Up w4 W → IsE W za true ho d (c - f * d) 281 → IsE W zb (decide (a - f * b ≠ 0)) lo b (a - f * b) 281 → Calls Tryz.prog 119 #[za, zb] W (fun e w' => ∃ z p q, e = .returned z ∧ IsQR 0 w' z p q 282 ∧ Sim ho d (c - f * d) (decide (a - f * b ≠ 0)) lo b (a - f * b) p q ∧ Up W w')) := fun W za zb hW ha hb => by
       have e1 := div_parts a b HBP.o; rw [← HFV.o] at e1; have e2 := HST.o.2.1; have e3 := HST.o.2.2.1; have e4 := HLB.o; have e5 := HN.o; simp only [if_true] at e5; refine IH.o ho d (c - f * d) (decide (a - f * b ≠ 0)) lo b (a - f * b) za zb W ?_ ha hb HST.o.2.2.2 ⟨e4.2.2.2, by omega, e4.2.1, by omega⟩ (((HSP.o.below HB0.o).below HA4.o).below hW)
       split <;> omega
      have hxb := HX0.o w4 HA4.o; have hk0 := hxb.1; have hk1 := hxb.2.1; have hk5 := HB54.o; obtain ⟨k0, k1, k2, k3, k4, k5⟩ := hk0.c6; obtain ⟨j0, j1, j2, j3, j4, j5⟩ := hk1.c6; obtain ⟨i0, i1⟩ := hk5.c2; clear hxb hk0 hk1 hk5
      go_upto_region 7 with fail
      go_cut [7] (fun q7 wx => ∃ (gb : Nat) (t1 : Bool) (a1 : Option Addr) (e1 g1 : Nat) (t2 : Bool) (a2 : Option Addr) (e2 g2 : Nat) (p q : Int), q7 = .pointer (some ⟨gb, 0, none⟩) ∧ w4.heap.size ≤ gb ∧ Bx wx gb [.bool t1, .slice a1 e1 g1, .bool t2, .slice a2 e2 g2] ∧ IsQR 0 wx (.agg #[.bool t1, .slice a1 e1 g1, .bool t2, .slice a2 e2 g2]) p q 282 ∧ Sim ho d (c - f * d) (decide (a - f * b ≠ 0)) lo b (a - f * b) p q ∧ Up w4 wx)
      case first =>
       go_wp2_with fail
       go_region_held3 (fun W => W.cell? ⟨w.heap.size, 0, none⟩ = some (.bool true) ∧ W.cell? ⟨w.heap.size, 1, none⟩ = some (.bool lo) ∧ W.cell? ⟨w.heap.size, 2, none⟩ = some (.bool s1) ∧ W.cell? ⟨w.heap.size, 3, none⟩ = some (.slice p1 l1 c1) ∧ W.cell? ⟨w.heap.size, 4, none⟩ = some (.bool s2) ∧ W.cell? ⟨w.heap.size, 5, none⟩ = some (.slice p2 l2 c2) ∧ W.cell? ⟨w.heap.size + 1, 0, none⟩ = some (.bool true) ∧ W.cell? ⟨w.heap.size + 1, 1, none⟩ = some (.bool ho) ∧ W.cell? ⟨w.heap.size + 1, 2, none⟩ = some (.bool s3) ∧ W.cell? ⟨w.heap.size + 1, 3, none⟩ = some (.slice p3 l3 c3) ∧ W.cell? ⟨w.heap.size + 1, 4, none⟩ = some (.bool s4) ∧ W.cell? ⟨w.heap.size + 1, 5, none⟩ = some (.slice p4 l4 c4) ∧ W.cell? ⟨w1.heap.size, 0, none⟩ = some (.bool s5) ∧ W.cell? ⟨w1.heap.size, 1, none⟩ = some (.slice p5 l5 c5)) (first
        | with_reducible assumption | with_reducible exact putS_14_4 (by with_reducible assumption) _ (by dsimp only; omega) _ _ _ _ | go_keep) (first
        | (go_at_call_of 156 (Value.slice p3 l3 c3)
           refine (T7a.o _ ?_).mono ?_
           ·repeat' (first | exact Below.refl _ _ | refine Below.drew ?_ | refine Below.alloc ?_ ?_ _ | assumption | (simp; done) | (simp; omega))
           rintro e wt1 ⟨u1, rfl, hu, hb⟩; have HU1 := Hd hu; have HQ1 : Hid (Up w4 wt1) := by
            unfold Hid
            refine Below.trans ?_ (hb.mono ?_)
            ·repeat' (first | exact Below.refl _ _ | refine Below.drew ?_ | refine Below.alloc ?_ ?_ _ | assumption | (simp; done) | (simp; omega))
            ·simp
           have HK1 := Hd (fun (gg : Nat) (l : List Value) (hx : Bx _ gg l) => hx.below hx.lt hb); have hz1 := HQ1.o.size
           try (have hnb : Bx wt1 w4.heap.size [.bool false, .slice none 0 0, .bool false, .slice none 0 0] := by with_reducible exact HK1.o _ _ (bx_newD _ _ _))
           try have HNB := Hd hnb
           try clear hnb
           have hxa := HX0.o wt1 (HA4.o.trans (HQ1.o.mono HA4.o.size)); have hxc := HB54.o.below HB54.o.lt HQ1.o; have hSwt1 := cc6_6_2 hxa.1 hxa.2.1 hxc; clear hxa hxc; clear hu hb)
        | (go_at_call_of 156 (Value.slice p1 l1 c1)
           refine (T7b.o _ ?_).mono ?_
           ·repeat' (first | exact HQ1.o | refine Below.drew ?_ | refine Below.alloc ?_ ?_ _ | assumption | (simp; done) | (simp; omega))
           rintro e wt2 ⟨u2, rfl, hu, hb⟩; have HU2 := Hd hu; have HV1 : Hid (IsE wt2 u1 true ho d (c - f * d) 281) := by
            unfold Hid
            first | exact HU1.o.below hb | exact (HU1.o.below (below_alloc _ _)).below hb
           have HQ2 : Hid (Up w4 wt2) := by
            unfold Hid
            refine Below.trans ?_ (hb.mono ?_)
            ·repeat' (first | exact HQ1.o | refine Below.drew ?_ | refine Below.alloc ?_ ?_ _ | assumption | (simp; done) | (simp; omega))
            ·first | exact hz1 | (simp; omega)
           have HK2 := Hd (fun (gg : Nat) (l : List Value) (hx : Bx _ gg l) => hx.below hx.lt hb); have hz2 := HQ2.o.size
           try (have hnb : Bx wt2 w4.heap.size [.bool false, .slice none 0 0, .bool false, .slice none 0 0] := by with_reducible exact HK2.o _ _ HNB.o)
           try (have hnb : Bx wt2 wt1.heap.size [.bool false, .slice none 0 0, .bool false, .slice none 0 0] := by with_reducible exact HK2.o _ _ (bx_new _ _ _))
           try have HNC := Hd hnb
           try clear hnb
           have hxa := HX0.o wt2 (HA4.o.trans (HQ2.o.mono HA4.o.size)); have hxc := HB54.o.below HB54.o.lt HQ2.o; have hSwt2 := cc6_6_2 hxa.1 hxa.2.1 hxc; clear hxa hxc; clear hu hb)
        | (go_at_call 119
           refine (T7c.o _ _ _ ?_ ?_ ?_).mono ?_
           ·repeat' (first | exact HQ2.o | refine Below.drew ?_ | refine Below.alloc ?_ ?_ _ | assumption | (simp; done) | (simp; omega))
           ·first | exact HV1.o | exact HV1.o.below (below_alloc _ _)
           ·first | exact HU2.o | exact HU2.o.below (below_alloc _ _)
           rintro e wm ⟨u3, p, q, rfl, hu, hsim, hb⟩; have HU3 := Hd hu; have HSI := Hd hsim; have HQM : Hid (Up w4 wm) := by
            unfold Hid
            refine Below.trans ?_ (hb.mono ?_)
            ·repeat' (first | exact HQ2.o | refine Below.drew ?_ | refine Below.alloc ?_ ?_ _ | assumption | (simp; done) | (simp; omega))
            ·first | exact hz2 | (simp; omega)
           have HK3 := Hd (fun (gg : Nat) (l : List Value) (hx : Bx _ gg l) => hx.below hx.lt hb); have hz3 := HQM.o.size
           try (have hnb : Bx wm w4.heap.size [.bool false, .slice none 0 0, .bool false, .slice none 0 0] := by with_reducible exact HK3.o _ _ HNC.o)
           try (have hnb : Bx wm wt1.heap.size [.bool false, .slice none 0 0, .bool false, .slice none 0 0] := by with_reducible exact HK3.o _ _ HNC.o)
           try (have hnb : Bx wm wt2.heap.size [.bool false, .slice none 0 0, .bool false, .slice none 0 0] := by with_reducible exact HK3.o _ _ (bx_new _ _ _))
           try (have n0 := hnb.cell 0; have n1 := hnb.cell 1; have n2 := hnb.cell 2; have n3 := hnb.cell 3; have nf0 := hnb.frozen 0; have nf1 := hnb.frozen 1; have nf2 := hnb.frozen 2; have nf3 := hnb.frozen 3; simp only [List.getElem?_cons_zero, List.getElem?_cons_succ] at n0 n1 n2 n3)
           try have HND := Hd hnb
           try clear hnb
           obtain ⟨t1, a1, e1, g1, t2, a2, e2, g2, rfl, _, _⟩ := hu.shape; have hxa := HX0.o wm (HA4.o.trans (HQM.o.mono HA4.o.size)); have hxc := HB54.o.below HB54.o.lt HQM.o; have hSwm := cc6_6_2 hxa.1 hxa.2.1 hxc; clear hxa hxc; clear hu hsim hb))
       all_goals
        go_wp2_with fail
        go_meet
        first
         | (have hnb := HND.o; exact ⟨_, t1, a1, e1, g1, t2, a2, e2, g2, p, q, rfl, (by first | exact leR | exact hz1 | exact hz2), (((hnb.set 0 _).set 1 _).set 2 _).set 3 _, HU3.o.keeps (noInt_of hnb (by simp)) (noInt_of hnb (by simp)) (keepsC4 wm _ _ _ _ _), HSI.o, (((HQM.o.setCell (by dsimp only; omega) _).setCell (by dsimp only; omega) _).setCell (by dsimp only; omega) _).setCell (by dsimp only; omega) _⟩)
         | exact ⟨wm.heap.size, t1, a1, e1, g1, t2, a2, e2, g2, p, q, rfl, hz3, bx_new wm _ _, HU3.o.below (below_alloc _ _), HSI.o, HQM.o.alloc HQM.o.size _⟩
      case rest =>
       obtain ⟨gb, t1, a1, e1, g1, t2, a2, e2, g2, p, q, rfl, hgb, hbx, hqr, hsim, hbel⟩ := hcut; have HX7 := Hd hbx; have HP := Hd (qr_parts hqr); have HSI := Hd hsim; have HA6 : Hid (Up W0 wc) := HA4.o.trans (hbel.mono HA4.o.size); have HB56 := Hd (HB54.o.below HB54.o.lt hbel); have HF6 := Hd (HF4.o.below hbel); have hlt6 : w.heap.size + 2 < gb := by omega
       clear k0 k1 k2 k3 k4 k5 j0 j1 j2 j3 j4 j5 i0 i1 hqr hsim hbel; have hk5 := HB56.o; obtain ⟨i0, i1⟩ := hk5.c2; obtain ⟨m0, m1, m2, m3⟩ := hbx.c4; clear hk5 hbx; have T8a : Hid (∀ W, Up wc W → Calls Tryz.prog 109 #[.agg #[.bool s5, .slice p5 l5 c5], .agg #[.bool t1, .slice a1 e1 g1]] W (fun e w' => ∃ z, e = .returned z ∧ IsI 0 w' z (f * p) 563 ∧ Up W w')) := fun W hW => by
        refine (times_any 0 _ _ f p 281 282 W (HF6.o.below hW) (HP.o.1.below hW) (by decide) (by decide) (((HSP.o.below HB0.o).below HA6.o).below hW)).mono ?_; rintro e w' ⟨z, rfl, hz, hb⟩; exact ⟨z, rfl, hz.mono (Nat.zero_le _) leR, hb⟩
       have T8b : Hid (∀ W zp, Up wc W → IsI 0 W zp (f * p) 563 → Calls Tryz.prog 40 #[zp, .agg #[.bool t2, .slice a2 e2 g2]] W (fun e w' => ∃ z, e = .returned z ∧ IsI 0 w' z (f * p + q) 846 ∧ Up W w')) := fun W zp hW hz => by
        refine (plus_any 0 _ _ (f * p) q 563 282 W hz (HP.o.2.below hW) (by decide) (by decide) (((HSP.o.below HB0.o).below HA6.o).below hW)).mono ?_; rintro e w' ⟨z, rfl, hz, hb⟩; exact ⟨z, rfl, hz.mono (Nat.zero_le _) leR, hb⟩
       go_wp2_with fail
       go_region_held3 (fun W => W.cell? ⟨w1.heap.size, 0, none⟩ = some (.bool s5) ∧ W.cell? ⟨w1.heap.size, 1, none⟩ = some (.slice p5 l5 c5) ∧ W.cell? ⟨gb, 0, none⟩ = some (.bool t1) ∧ W.cell? ⟨gb, 1, none⟩ = some (.slice a1 e1 g1) ∧ W.cell? ⟨gb, 2, none⟩ = some (.bool t2) ∧ W.cell? ⟨gb, 3, none⟩ = some (.slice a2 e2 g2)) (first
        | with_reducible assumption | with_reducible exact putS_6_4 (by with_reducible assumption) (w.heap.size + 1 + 1) (by dsimp only; omega) _ _ _ _ | go_keep) (first
        | (go_at_call 109
           refine (T8a.o _ ?_).mono ?_
           ·exact (Below.refl _ wc).drew
           rintro e wt1 ⟨u1, rfl, hu, hb⟩; have HU1 := Hd hu; have HQ1 : Hid (Up wc wt1) := (Below.refl _ wc).drew.trans hb; have hxa := HB56.o.below HB56.o.lt HQ1.o; have hxc := HX7.o.below HX7.o.lt HQ1.o; have hTwt1 := cc2_4 hxa hxc; clear hxa hxc; clear hu hb)
        | (go_at_call 40
           refine (T8b.o _ _ HQ1.o HU1.o).mono ?_; rintro e wm ⟨u2, rfl, hu, hb⟩; have HU2 := Hd hu; have HQM : Hid (Up wc wm) := HQ1.o.trans (hb.mono HQ1.o.size); obtain ⟨s9, p9, l9, c9, rfl⟩ := hu.shape; have hxa := HB56.o.below HB56.o.lt HQM.o; have hxc := HX7.o.below HX7.o.lt HQM.o; have hTwm := cc2_4 hxa hxc; clear hxa hxc; have hxr := (HX0.o wm (HA6.o.trans (HQM.o.mono HA6.o.size))).2.2; obtain ⟨r0, r1, r2, r3⟩ := hxr.c4; obtain ⟨rf0, rf1, rf2, rf3⟩ := hxr.f4; clear hu hb hxr))
       all_goals
        try simp only [List.getElem_toArray, List.getElem_cons_succ, List.getElem_cons_zero, Act.put, List.setIfInBounds_toArray, List.set_cons_succ, List.set_cons_zero]
        go_wp2
        have HA9 := HA6.o.trans (HQM.o.mono HA6.o.size); have hbw := (HX0.o wm HA9).2.2; have hnR : NoInt wm (w.heap.size + 1 + 1) := noInt_of hbw (by simp); have HK := keepsC4 wm (w.heap.size + 1 + 1) (.bool s9) (.slice p9 l9 c9) (.bool t1) (.slice a1 e1 g1); have hD1 := HU2.o.keeps hnR hnR HK; have hD2 := (HP.o.1.below HQM.o).keeps hnR hnR HK; have hB9 := bs4 (HB0.o.trans (HA9.mono HB0.o.size)) (w.heap.size + 1 + 1) (by omega) (.bool s9) (.slice p9 l9 c9) (.bool t1) (.slice a1 e1 g1); have hZ9 := hbw.s4 (.bool s9) (.slice p9 l9 c9) (.bool t1) (.slice a1 e1 g1); generalize (((wm.setCell ⟨w.heap.size + 1 + 1, 0, none⟩ (.bool s9)).setCell ⟨w.heap.size + 1 + 1, 1, none⟩ (.slice p9 l9 c9)).setCell ⟨w.heap.size + 1 + 1, 2, none⟩ (.bool t1)).setCell ⟨w.heap.size + 1 + 1, 3, none⟩ (.slice a1 e1 g1) = W9 at *; obtain ⟨v0, v1, v2, v3⟩ := hZ9.c4; have hsim : Sim lo a b true ho c d (f * p + q) p := by
         have h9 := HSI.o; rw [HFV.o] at h9 ⊢; exact Sim.step lo a b ho c d p q (fun h => HFD.o (.inr h)) h9
        have hbd := hsim.bound HE.o; refine bodyPost_ret (v := .agg #[.bool s9, .slice p9 l9 c9, .bool t1, .slice a1 e1 g1]) ?_ rfl ⟨_, f * p + q, p, rfl, qr_mk (hD1.tight (sim_lt HLB.o hbd.1 hbd.2.2.1)) hD2, hsim, hB9⟩; simp [results, Tryz.results119, go_sem, v0, v1, v2, v3]
theorem ratV_gcd' {c : ByteArray} {k : Option Nat} {x y : Int} (h : RatV c k x y) : Int.gcd x y = 1 := by
 cases k with
 | none => rw [h.2.2]; simp
 | some i => rw [h.2.2.1, h.2.2.2]; exact h.2.1.2.2.2.2
theorem isI_nil (w : World) (n : Nat) : IsI 0 w (.agg #[.bool false, .slice none 0 0]) 0 n :=
 ⟨false, _, [], rfl, ⟨none, 0, rfl, leR, Nat.zero_le _, (by intro x hx; cases hx), .inl rfl⟩, trimL_trim [], rfl, Nat.zero_le _⟩
def RdE (h : Bool) (t : ByteArray) (k : Option Nat) (x y : Int) : Prop := if h = true then RatV t k x y else x = 0 ∧ y = 0
def NoneB (h1 o1 : Bool) (x1 y1 : Int) (h2 o2 : Bool) (x2 y2 : Int) : Bool := h1 && h2 && (decide (x2 * y1 < x1 * y2) || (decide (x1 * y2 = x2 * y1) && (o1 || o2)))
def lowOut (h1 o1 : Bool) (x1 : Int) : Bool := h1 && (decide (0 < x1) || (decide (x1 = 0) && o1))
def highOut (h2 o2 : Bool) (x2 : Int) : Bool := h2 && (decide (x2 < 0) || (decide (x2 = 0) && o2))
def Best (h1 o1 : Bool) (x1 y1 : Int) (h2 o2 : Bool) (x2 y2 p q : Int) : Prop :=
 if lowOut h1 o1 x1 = true then Sim o1 x1 y1 h2 o2 x2 y2 p q
 else if highOut h2 o2 x2 = true then ∃ p', p = -p' ∧ Sim o2 (-x2) y2 h1 o1 (-x1) y1 p' q
 else p = 0 ∧ q = 1
theorem Sim.none {lo a b ho c d p q} (h : Sim lo a b false ho c d p q) : p = simN lo a b ∧ q = 1 := by
 rcases h.inv with ⟨_, rfl, rfl⟩ | ⟨h, _⟩
 ·exact ⟨rfl, rfl⟩
 ·cases h
theorem Best.unique {h1 o1 : Bool} {x1 y1 : Int} {h2 o2 : Bool} {x2 y2 p q x1' y1' x2' y2' p' q' : Int} (h : Best h1 o1 x1 y1 h2 o2 x2 y2 p q) (h' : Best h1 o1 x1' y1' h2 o2 x2' y2' p' q') (e1 : h1 = true → x1 = x1' ∧ y1 = y1') (e2 : h2 = true → x2 = x2' ∧ y2 = y2') : p = p' ∧ q = q' := by
 unfold Best at h h'; have el : lowOut h1 o1 x1' = lowOut h1 o1 x1 := by
  cases h1 with
  | false => rfl
  | true => rw [(e1 rfl).1]
 have eh : highOut h2 o2 x2' = highOut h2 o2 x2 := by
  cases h2 with
  | false => rfl
  | true => rw [(e2 rfl).1]
 rw [el, eh] at h'
 by_cases hl : lowOut h1 o1 x1 = true
 ·rw [if_pos hl] at h h'; have hh : h1 = true := by cases h1 with
   | false => cases hl
   | true => rfl
  obtain ⟨rfl, rfl⟩ := e1 hh
  cases h2 with
  | false =>
    have a1 := h.none; have a2 := h'.none; exact ⟨a1.1.trans a2.1.symm, a1.2.trans a2.2.symm⟩
  | true =>
    obtain ⟨rfl, rfl⟩ := e2 rfl; exact h.unique _ _ h'
 rw [if_neg hl] at h h'
 by_cases hh : highOut h2 o2 x2 = true
 ·rw [if_pos hh] at h h'; have hh2 : h2 = true := by cases h2 with
   | false => cases hh
   | true => rfl
  obtain ⟨rfl, rfl⟩ := e2 hh2; obtain ⟨a, rfl, h⟩ := h; obtain ⟨a', rfl, h'⟩ := h'
  cases h1 with
  | false =>
    have a1 := h.none; have a2 := h'.none; exact ⟨by rw [a1.1, a2.1], a1.2.trans a2.2.symm⟩
  | true =>
    obtain ⟨rfl, rfl⟩ := e1 rfl; obtain ⟨rfl, rfl⟩ := h.unique _ _ h'; exact ⟨rfl, rfl⟩
 rw [if_neg hh] at h h'; exact ⟨h.1.trans h'.1.symm, h.2.trans h'.2.symm⟩
theorem Sim.irrel {lo a b ho c d p q} (h : Sim lo a b false ho c d p q) (c' d' : Int) : Sim lo a b false ho c' d' p q := by
 rcases h.inv with ⟨_, rfl, rfl⟩ | ⟨h, _⟩
 ·exact Sim.found _ _ _ _ _ _ _ (.inl rfl)
 ·cases h
theorem Best.irrel {h1 o1 : Bool} {x1 y1 : Int} {h2 o2 : Bool} {x2 y2 p q : Int} (h : Best h1 o1 x1 y1 h2 o2 x2 y2 p q) (x1' y1' x2' y2' : Int) (e1 : h1 = true → x1 = x1' ∧ y1 = y1') (e2 : h2 = true → x2 = x2' ∧ y2 = y2') : Best h1 o1 x1' y1' h2 o2 x2' y2' p q := by
 unfold Best at h ⊢; have el : lowOut h1 o1 x1' = lowOut h1 o1 x1 := by
  cases h1 with
  | false => rfl
  | true => rw [(e1 rfl).1]
 have eh : highOut h2 o2 x2' = highOut h2 o2 x2 := by
  cases h2 with
  | false => rfl
  | true => rw [(e2 rfl).1]
 rw [el, eh]
 by_cases hl : lowOut h1 o1 x1 = true
 ·rw [if_pos hl] at h ⊢; have hh : h1 = true := by cases h1 with
   | false => cases hl
   | true => rfl
  obtain ⟨rfl, rfl⟩ := e1 hh
  cases h2 with
  | false => exact h.irrel _ _
  | true =>
    obtain ⟨rfl, rfl⟩ := e2 rfl; exact h
 rw [if_neg hl] at h ⊢
 by_cases hh : highOut h2 o2 x2 = true
 ·rw [if_pos hh] at h ⊢; have hh2 : h2 = true := by cases h2 with
   | false => cases hh
   | true => rfl
  obtain ⟨rfl, rfl⟩ := e2 hh2; obtain ⟨a, rfl, h⟩ := h
  cases h1 with
  | false => exact ⟨a, rfl, h.irrel _ _⟩
  | true =>
    obtain ⟨rfl, rfl⟩ := e1 rfl; exact ⟨a, rfl, h⟩
 rw [if_neg hh] at h ⊢; exact h
def ResS (h1 o1 : Bool) (t1 : ByteArray) (h2 o2 : Bool) (t2 u : ByteArray) : Prop := ∃ k1 k2, IsCut t1 k1 ∧ IsCut t2 k2 ∧
 ((∃ x1 y1 x2 y2, RdE h1 t1 k1 x1 y1 ∧ RdE h2 t2 k2 x2 y2 ∧ ((NoneB h1 (h1 && o1) x1 y1 h2 (h2 && o2) x2 y2 = false ∧ ∃ p q, Best h1 (h1 && o1) x1 y1 h2 (h2 && o2) x2 y2 p q ∧ TextR p q u) ∨ (NoneB h1 (h1 && o1) x1 y1 h2 (h2 && o2) x2 y2 = true ∧ u = ⟨#[]⟩))) ∨
  ((¬ ∃ x1 y1 x2 y2, RdE h1 t1 k1 x1 y1 ∧ RdE h2 t2 k2 x2 y2) ∧ u = ⟨#[]⟩))
theorem RdE.one {h : Bool} {t : ByteArray} {k : Option Nat} {x y x' y' : Int} (a : RdE h t k x y) (b : RdE h t k x' y') : x = x' ∧ y = y' := by
 unfold RdE at a b
 cases h with
 | false => exact ⟨a.1.trans b.1.symm, a.2.trans b.2.symm⟩
 | true => exact ratV_one a b
theorem ResS.eq {h1 o1 : Bool} {t1 : ByteArray} {h2 o2 : Bool} {t2 u v : ByteArray} (h : ResS h1 o1 t1 h2 o2 t2 u) (h' : ResS h1 o1 t1 h2 o2 t2 v) : u = v := by
 obtain ⟨k1, k2, c1, c2, h⟩ := h; obtain ⟨m1, m2, d1, d2, h'⟩ := h'; obtain rfl := isCut_unique c1 d1; obtain rfl := isCut_unique c2 d2
 rcases h with ⟨x1, y1, x2, y2, a1, a2, h⟩ | ⟨n, rfl⟩
 ·rcases h' with ⟨x1', y1', x2', y2', b1, b2, h'⟩ | ⟨n, rfl⟩
  ·obtain ⟨rfl, rfl⟩ := a1.one b1; obtain ⟨rfl, rfl⟩ := a2.one b2
   rcases h with ⟨e, p, q, hb, ht⟩ | ⟨e, rfl⟩ <;> rcases h' with ⟨e', p', q', hb', ht'⟩ | ⟨e', rfl⟩
   ·obtain ⟨rfl, rfl⟩ := hb.unique hb' (fun _ => ⟨rfl, rfl⟩) (fun _ => ⟨rfl, rfl⟩); exact ht.eq ht'
   ·rw [e] at e'; cases e'
   ·rw [e] at e'; cases e'
   rfl
  exact absurd ⟨_, _, _, _, a1, a2⟩ n
 rcases h' with ⟨x1', y1', x2', y2', b1, b2, h'⟩ | ⟨_, rfl⟩
 ·exact absurd ⟨_, _, _, _, b1, b2⟩ n
 rfl
theorem RdE.lt {h : Bool} {t : ByteArray} {k : Option Nat} {x y : Int} (a : RdE h t k x y) : x.natAbs < lb 281 ∧ y.natAbs < lb 281 ∧ (h = true → 0 < y ∧ Int.gcd x y = 1) := by
 unfold RdE at a
 cases h with
 | false =>
   obtain ⟨rfl, rfl⟩ := a; have h1 : (0 : Int).natAbs < lb 281 := Nat.lt_of_lt_of_le (by decide) (Nat.le_of_lt (lb_one 281 (by decide))); exact ⟨h1, h1, fun e => by cases e⟩
 | true =>
   have hl := ratV_lt a; exact ⟨lb_le 280 281 (by decide) hl.1, lb_le 280 281 (by decide) hl.2.1, fun _ => ⟨hl.2.2, ratV_gcd' a⟩⟩
theorem IsE.mono {w : World} {z : Value} {hs op : Bool} {x y : Int} {n n' : Nat} (h : IsE w z hs op x y n) (hn : n ≤ n') : IsE w z hs op x y n' := by
 obtain ⟨s1, p1, l1, c1, s2, p2, l2, c2, e, h1, h2⟩ := h; exact ⟨s1, p1, l1, c1, s2, p2, l2, c2, e, h1.mono leR hn, h2.mono leR hn⟩
structure Two (h1 o1 : Bool) (x1 y1 : Int) (h2 o2 : Bool) (x2 y2 : Int) : Prop where
 l : h1 = true → 0 < y1 ∧ Int.gcd x1 y1 = 1
 h : h2 = true → 0 < y2 ∧ Int.gcd x2 y2 = 1
 n : NoneB h1 o1 x1 y1 h2 o2 x2 y2 = false
theorem Two.low {h1 o1 : Bool} {x1 y1 : Int} {h2 o2 : Bool} {x2 y2 : Int} (t : Two h1 o1 x1 y1 h2 o2 x2 y2) (hl : lowOut h1 o1 x1 = true) : h1 = true ∧ Ends o1 x1 y1 h2 o2 x2 y2 := by
 unfold lowOut at hl
 cases h1 with
 | false => cases hl
 | true =>
   have hx : 0 < x1 ∨ x1 = 0 ∧ o1 = true := by simpa using hl
   refine ⟨rfl, (t.l rfl).1, by omega, (t.l rfl).2, by rcases hx with h | h; exact .inl h; exact .inr h.2, fun hh => ?_⟩; subst hh; refine ⟨(t.h rfl).1, (t.h rfl).2, ?_⟩; have hn := t.n; unfold NoneB at hn; have hn' : ¬ (x2 * y1 < x1 * y2 ∨ x1 * y2 = x2 * y1 ∧ (o1 = true ∨ o2 = true)) := by
    intro h; have : (decide (x2 * y1 < x1 * y2) || (decide (x1 * y2 = x2 * y1) && (o1 || o2))) = true := by simpa using h
    simp [this] at hn
   rcases Int.lt_trichotomy (x1 * y2) (x2 * y1) with h | h | h
   ·exact .inl h
   ·refine .inr ⟨h, ?_, ?_⟩
    ·cases o1 with
     | false => rfl
     | true => exact absurd (.inr ⟨h, .inl rfl⟩) hn'
    ·cases o2 with
     | false => rfl
     | true => exact absurd (.inr ⟨h, .inr rfl⟩) hn'
   ·exact absurd (.inl h) hn'
theorem Two.mirror {h1 o1 : Bool} {x1 y1 : Int} {h2 o2 : Bool} {x2 y2 : Int} (t : Two h1 o1 x1 y1 h2 o2 x2 y2) : Two h2 o2 (-x2) y2 h1 o1 (-x1) y1 := by
 refine ⟨fun h => ⟨(t.h h).1, by rw [Int.neg_gcd]; exact (t.h h).2⟩, fun h => ⟨(t.l h).1, by rw [Int.neg_gcd]; exact (t.l h).2⟩, ?_⟩; have hn := t.n; unfold NoneB at hn ⊢; have e1 : (-x1 * y2 < -x2 * y1) = (x2 * y1 < x1 * y2) := by rw [Int.neg_mul, Int.neg_mul]; exact propext ⟨fun h => by omega, fun h => by omega⟩
 have e2 : (-x2 * y1 = -x1 * y2) = (x1 * y2 = x2 * y1) := by rw [Int.neg_mul, Int.neg_mul]; exact propext ⟨fun h => by omega, fun h => by omega⟩
 simp only [e1, e2]; rw [Bool.and_comm h2 h1, Bool.or_comm o2 o1]; exact hn
theorem high_low (h2 o2 : Bool) (x2 : Int) : highOut h2 o2 x2 = lowOut h2 o2 (-x2) := by
 unfold highOut lowOut; have e1 : (x2 < 0) = (0 < -x2) := propext ⟨fun h => by omega, fun h => by omega⟩; have e2 : (x2 = 0) = (-x2 = 0) := propext ⟨fun h => by omega, fun h => by omega⟩; simp only [e1, e2]
theorem adm_zl (h1 o1 : Bool) (x1 y1 : Int) : admB h1 o1 (-x1) y1 (-0) 1 = !lowOut h1 o1 x1 := by
 unfold admB lowOut ordI; have e0 : (-0 : Int) * y1 = 0 := by rw [Int.neg_zero, Int.zero_mul]
 rw [e0, Int.mul_one]
 rcases Int.lt_trichotomy x1 0 with h | h | h
 ·rw [if_pos (by omega)]; have a : ¬ 0 < x1 := by omega
  have b : x1 ≠ 0 := by omega
  cases h1 <;> simp [a, b]
 ·subst h; cases h1 <;> cases o1 <;> simp
 rw [if_neg (by omega), if_pos (by omega)]
 cases h1 <;> simp [h]
theorem adm_zh (h2 o2 : Bool) (x2 y2 : Int) : admB h2 o2 x2 y2 0 1 = !highOut h2 o2 x2 := by
 unfold admB highOut ordI; rw [Int.zero_mul, Int.mul_one]
 rcases Int.lt_trichotomy x2 0 with h | h | h
 ·rw [if_neg (by omega), if_pos h]
  cases h2 <;> simp [h]
 ·subst h; cases h2 <;> cases o2 <;> simp
 rw [if_pos h]; have a : ¬ x2 < 0 := by omega
 have b : x2 ≠ 0 := by omega
 cases h2 <;> simp [a, b]
theorem Best.lt {h1 o1 : Bool} {x1 y1 : Int} {h2 o2 : Bool} {x2 y2 p q : Int} (h : Best h1 o1 x1 y1 h2 o2 x2 y2 p q) (t : Two h1 o1 x1 y1 h2 o2 x2 y2) (b : x1.natAbs < lb 281 ∧ y1.natAbs < lb 281 ∧ x2.natAbs < lb 281 ∧ y2.natAbs < lb 281) : p.natAbs < lb 282 := by
 unfold Best at h
 by_cases hl : lowOut h1 o1 x1 = true
 ·rw [if_pos hl] at h; have hb := h.bound (t.low hl).2; exact sim_lt b hb.1 hb.2.2.1
 rw [if_neg hl] at h
 by_cases hh : highOut h2 o2 x2 = true
 ·rw [if_pos hh] at h; obtain ⟨p', rfl, h⟩ := h; rw [high_low] at hh; have hb := h.bound (t.mirror.low hh).2; rw [Int.natAbs_neg]; exact sim_lt (b := y2) (d := y1) ⟨by rw [Int.natAbs_neg]; exact b.2.2.1, b.2.2.2, by rw [Int.natAbs_neg]; exact b.1, b.2.1⟩ hb.1 hb.2.2.1
 rw [if_neg hh] at h; rw [h.1]; exact Nat.lt_of_lt_of_le (by decide) (Nat.le_of_lt (lb_one 282 (by decide)))
theorem none_ord (o1 o2 : Bool) (x1 y1 x2 y2 : Int) : NoneB true o1 x1 y1 true o2 x2 y2 = (decide (0 < ordI (x1 * y2) (x2 * y1)) || (decide (ordI (x1 * y2) (x2 * y1) = 0) && (o1 || o2))) := by
 unfold NoneB ordI
 rcases Int.lt_trichotomy (x1 * y2) (x2 * y1) with h | h | h
 ·rw [if_pos h]; have a : ¬ x2 * y1 < x1 * y2 := by omega
  have b : x1 * y2 ≠ x2 * y1 := by omega
  simp [a, b]
 ·rw [h, if_neg (by omega), if_neg (by omega)]; simp
 rw [if_neg (by omega), if_pos h]; simp [h]
theorem putS_12_4 {W : World} {a0 a1 a2 a3 a4 a5 a6 a7 a8 a9 a10 a11 : Addr} {v0 v1 v2 v3 v4 v5 v6 v7 v8 v9 v10 v11 : Value} (m : W.cell? a0 = some v0 ∧ W.cell? a1 = some v1 ∧ W.cell? a2 = some v2 ∧ W.cell? a3 = some v3 ∧ W.cell? a4 = some v4 ∧ W.cell? a5 = some v5 ∧ W.cell? a6 = some v6 ∧ W.cell? a7 = some v7 ∧ W.cell? a8 = some v8 ∧ W.cell? a9 = some v9 ∧ W.cell? a10 = some v10 ∧ W.cell? a11 = some v11) (g : Nat) (h : g ≠ a0.block ∧ g ≠ a1.block ∧ g ≠ a2.block ∧ g ≠ a3.block ∧ g ≠ a4.block ∧ g ≠ a5.block ∧ g ≠ a6.block ∧ g ≠ a7.block ∧ g ≠ a8.block ∧ g ≠ a9.block ∧ g ≠ a10.block ∧ g ≠ a11.block) (u0 u1 u2 u3 : Value) : ((((W.setCell ⟨g, 0, none⟩ (u0)).setCell ⟨g, 1, none⟩ (u1)).setCell ⟨g, 2, none⟩ (u2)).setCell ⟨g, 3, none⟩ (u3)).cell? a0 = some v0 ∧ ((((W.setCell ⟨g, 0, none⟩ (u0)).setCell ⟨g, 1, none⟩ (u1)).setCell ⟨g, 2, none⟩ (u2)).setCell ⟨g, 3, none⟩ (u3)).cell? a1 = some v1 ∧ ((((W.setCell ⟨g, 0, none⟩ (u0)).setCell ⟨g, 1, none⟩ (u1)).setCell ⟨g, 2, none⟩ (u2)).setCell ⟨g, 3, none⟩ (u3)).cell? a2 = some v2 ∧ ((((W.setCell ⟨g, 0, none⟩ (u0)).setCell ⟨g, 1, none⟩ (u1)).setCell ⟨g, 2, none⟩ (u2)).setCell ⟨g, 3, none⟩ (u3)).cell? a3 = some v3 ∧ ((((W.setCell ⟨g, 0, none⟩ (u0)).setCell ⟨g, 1, none⟩ (u1)).setCell ⟨g, 2, none⟩ (u2)).setCell ⟨g, 3, none⟩ (u3)).cell? a4 = some v4 ∧ ((((W.setCell ⟨g, 0, none⟩ (u0)).setCell ⟨g, 1, none⟩ (u1)).setCell ⟨g, 2, none⟩ (u2)).setCell ⟨g, 3, none⟩ (u3)).cell? a5 = some v5 ∧ ((((W.setCell ⟨g, 0, none⟩ (u0)).setCell ⟨g, 1, none⟩ (u1)).setCell ⟨g, 2, none⟩ (u2)).setCell ⟨g, 3, none⟩ (u3)).cell? a6 = some v6 ∧ ((((W.setCell ⟨g, 0, none⟩ (u0)).setCell ⟨g, 1, none⟩ (u1)).setCell ⟨g, 2, none⟩ (u2)).setCell ⟨g, 3, none⟩ (u3)).cell? a7 = some v7 ∧ ((((W.setCell ⟨g, 0, none⟩ (u0)).setCell ⟨g, 1, none⟩ (u1)).setCell ⟨g, 2, none⟩ (u2)).setCell ⟨g, 3, none⟩ (u3)).cell? a8 = some v8 ∧ ((((W.setCell ⟨g, 0, none⟩ (u0)).setCell ⟨g, 1, none⟩ (u1)).setCell ⟨g, 2, none⟩ (u2)).setCell ⟨g, 3, none⟩ (u3)).cell? a9 = some v9 ∧ ((((W.setCell ⟨g, 0, none⟩ (u0)).setCell ⟨g, 1, none⟩ (u1)).setCell ⟨g, 2, none⟩ (u2)).setCell ⟨g, 3, none⟩ (u3)).cell? a10 = some v10 ∧ ((((W.setCell ⟨g, 0, none⟩ (u0)).setCell ⟨g, 1, none⟩ (u1)).setCell ⟨g, 2, none⟩ (u2)).setCell ⟨g, 3, none⟩ (u3)).cell? a11 = some v11 :=
 ⟨cell_farC4 g m.1 h.1 _ _ _ _, cell_farC4 g m.2.1 h.2.1 _ _ _ _, cell_farC4 g m.2.2.1 h.2.2.1 _ _ _ _, cell_farC4 g m.2.2.2.1 h.2.2.2.1 _ _ _ _, cell_farC4 g m.2.2.2.2.1 h.2.2.2.2.1 _ _ _ _, cell_farC4 g m.2.2.2.2.2.1 h.2.2.2.2.2.1 _ _ _ _, cell_farC4 g m.2.2.2.2.2.2.1 h.2.2.2.2.2.2.1 _ _ _ _, cell_farC4 g m.2.2.2.2.2.2.2.1 h.2.2.2.2.2.2.2.1 _ _ _ _, cell_farC4 g m.2.2.2.2.2.2.2.2.1 h.2.2.2.2.2.2.2.2.1 _ _ _ _, cell_farC4 g m.2.2.2.2.2.2.2.2.2.1 h.2.2.2.2.2.2.2.2.2.1 _ _ _ _, cell_farC4 g m.2.2.2.2.2.2.2.2.2.2.1 h.2.2.2.2.2.2.2.2.2.2.1 _ _ _ _, cell_farC4 g m.2.2.2.2.2.2.2.2.2.2.2 h.2.2.2.2.2.2.2.2.2.2.2 _ _ _ _⟩
set_option maxRecDepth 100000 in
set_option maxHeartbeats 2000000 in
theorem readEnd_any (h o : Bool) (t : ByteArray) (k : Option Nat) (w : World) (ht : t.size ≤ maxLen) (hk : IsCut t k) (hSP : SP w) (hNS : NS w) (hLT : LT w) :
 Calls Tryz.prog 68 #[.agg #[.bool h, .bool o, .string t]] w fun e w' => ∃ z ok, e = .returned (.tuple #[z, .bool ok]) ∧ (∃ s1 p1 l1 c1 s2 p2 l2 c2, z = .agg #[.bool h, .bool (h && o), .bool s1, .slice p1 l1 c1, .bool s2, .slice p2 l2 c2]) ∧ (ok = true ↔ (h = true → ∃ x y, RatV t k x y)) ∧ (ok = true → ∃ x y, RdE h t k x y ∧ IsE w' z h (h && o) x y 280) ∧ Up w w' := by
 have HK := Hd hk; have HSP := Hd hSP; have HNS := Hd hNS; have HLT := Hd hLT; clear hk hSP hNS hLT; obtain ⟨W0, hW0⟩ := exW ((w.alloc (.cells #[.bool h, .bool o, .string t] 31)).alloc (.cells #[.bool false, .bool false, .bool false, .slice none 0 0, .bool false, .slice none 0 0] 82)); have HW0 := Hd hW0; have HB0 : Hid (Up w W0) := by unfold Hid; rw [← hW0]; exact below_al (below_alloc _ _) _
 have HS0 : Hid (W0.heap.size = w.heap.size + 2) := by show W0.heap.size = _; rw [← hW0]; simp
 have hx0_0 : Bx W0 (w.heap.size) [.bool h, .bool o, .string t] := by
  rw [← hW0]; exact (bx_new w _ _).alloc _
 have hx0_1 : Bx W0 (w.heap.size + 1) [.bool false, .bool false, .bool false, .slice none 0 0, .bool false, .slice none 0 0] := by
  rw [← hW0]; have h := bx_new (w.alloc (.cells #[.bool h, .bool o, .string t] 31)) [.bool false, .bool false, .bool false, .slice none 0 0, .bool false, .slice none 0 0] 82; rw [World.size_alloc] at h; exact h
 have HX0 : Hid (∀ W, Up W0 W → Bx W (w.heap.size) [.bool h, .bool o, .string t] ∧ Bx W (w.heap.size + 1) [.bool false, .bool false, .bool false, .slice none 0 0, .bool false, .slice none 0 0]) := fun W hW => ⟨hx0_0.below hx0_0.lt hW, hx0_1.below hx0_1.lt hW⟩; obtain ⟨k0, k1, k2⟩ := hx0_0.c3; obtain ⟨r0, r1, r2, r3, r4, r5⟩ := hx0_1.c6; obtain ⟨rf0, rf1, rf2, rf3, rf4, rf5⟩ := hx0_1.f6; clear hW0 hx0_0 hx0_1; cases h
 ·go_enter Tryz.func68, Tryz.ntmps68
  go_upto_region 1 with fail
  rw [HW0.o]
  go_wp2
  have hbw := (HX0.o W0 (Below.refl _ _)).2; have hB9 := bs6 HB0.o (w.heap.size + 1) (by omega) (.bool false) (.bool false) (.bool false) (.slice none 0 0) (.bool false) (.slice none 0 0); have hZ := hbw.s6 (.bool false) (.bool false) (.bool false) (.slice none 0 0) (.bool false) (.slice none 0 0); generalize (((((W0.setCell ⟨w.heap.size + 1, 0, none⟩ (.bool false)).setCell ⟨w.heap.size + 1, 1, none⟩ (.bool false)).setCell ⟨w.heap.size + 1, 2, none⟩ (.bool false)).setCell ⟨w.heap.size + 1, 3, none⟩ (.slice none 0 0)).setCell ⟨w.heap.size + 1, 4, none⟩ (.bool false)).setCell ⟨w.heap.size + 1, 5, none⟩ (.slice none 0 0) = W9 at *; obtain ⟨v0, v1, v2, v3, v4, v5⟩ := hZ.c6; refine bodyPost_ret (v := .tuple #[.agg #[.bool false, .bool false, .bool false, .slice none 0 0, .bool false, .slice none 0 0], .bool true]) ?_ rfl ⟨_, true, rfl, ⟨_, _, _, _, _, _, _, _, rfl⟩, ⟨fun _ h => Bool.noConfusion h, fun _ => rfl⟩, fun _ => ⟨0, 0, ⟨rfl, rfl⟩, _, _, _, _, _, _, _, _, rfl, isI_nil _ _, isI_nil _ _⟩, hB9⟩; simp [results, Tryz.results68, go_sem, v0, v1, v2, v3, v4, v5]
 go_enter Tryz.func68, Tryz.ntmps68
 go_upto_region 1 with fail
 rw [HW0.o]
 go_wp2_with fail
 refine (readRational_any t k W0 ht HK.o (HSP.o.below HB0.o) (HNS.o.below HB0.o) (HLT.o.below HB0.o)).mono ?_; rintro e w1 ⟨z, ok, rfl, hR, hb1⟩; have HR := Hd hR; obtain ⟨s1, p1, l1, c1, s2, p2, l2, c2, rfl⟩ := hR.1; have HC1 := Hd hb1; clear hR hb1 k0 k1 k2 r0 r1 r2 r3 r4 r5 rf0 rf1 rf2 rf3 rf4 rf5; obtain ⟨W1, hW1⟩ := exW (w1.alloc (.cells #[.bool s1, .slice p1 l1 c1, .bool s2, .slice p2 l2 c2] 64)); have HW1 := Hd hW1; have HB1 : Hid (Up w1 W1) := by unfold Hid; rw [← hW1]; exact below_alloc _ _
 have HS1 : Hid (W1.heap.size = w1.heap.size + 1) := by show W1.heap.size = _; rw [← hW1]; simp
 have hx1_0 : Bx W1 (w1.heap.size) [.bool s1, .slice p1 l1 c1, .bool s2, .slice p2 l2 c2] := by
  rw [← hW1]; exact bx_new w1 _ _
 have HX1 : Hid (∀ W, Up W1 W → Bx W (w1.heap.size) [.bool s1, .slice p1 l1 c1, .bool s2, .slice p2 l2 c2]) := fun W hW => hx1_0.below hx1_0.lt hW; have HA1 : Hid (Up W0 W1) := HC1.o.trans (HB1.o.mono HC1.o.size); have hxb := (HX0.o W1 HA1.o); have hxb0 := hxb.1; have hxb1 := hxb.2; obtain ⟨k0, k1, k2⟩ := hxb0.c3; obtain ⟨r0, r1, r2, r3, r4, r5⟩ := hxb1.c6; obtain ⟨rf0, rf1, rf2, rf3, rf4, rf5⟩ := hxb1.f6; obtain ⟨m0, m1, m2, m3⟩ := hx1_0.c4; clear hW1 hx1_0 hxb hxb0 hxb1
 go_upto_region 4 with fail
 rw [HW1.o]
 go_wp2
 have hbw := (HX0.o W1 HA1.o).2; have hnR : NoInt W1 (w.heap.size + 1) := noInt_of hbw (by simp); have HKK := keepsC6 W1 (w.heap.size + 1) (.bool true) (.bool o) (.bool s1) (.slice p1 l1 c1) (.bool s2) (.slice p2 l2 c2); have hB9 := bs6 (HB0.o.trans (HA1.o.mono HB0.o.size)) (w.heap.size + 1) (by omega) (.bool true) (.bool o) (.bool s1) (.slice p1 l1 c1) (.bool s2) (.slice p2 l2 c2); have hZ := hbw.s6 (.bool true) (.bool o) (.bool s1) (.slice p1 l1 c1) (.bool s2) (.slice p2 l2 c2); generalize (((((W1.setCell ⟨w.heap.size + 1, 0, none⟩ (.bool true)).setCell ⟨w.heap.size + 1, 1, none⟩ (.bool o)).setCell ⟨w.heap.size + 1, 2, none⟩ (.bool s1)).setCell ⟨w.heap.size + 1, 3, none⟩ (.slice p1 l1 c1)).setCell ⟨w.heap.size + 1, 4, none⟩ (.bool s2)).setCell ⟨w.heap.size + 1, 5, none⟩ (.slice p2 l2 c2) = W9 at *; obtain ⟨v0, v1, v2, v3, v4, v5⟩ := hZ.c6; refine bodyPost_ret (v := .tuple #[.agg #[.bool true, .bool o, .bool s1, .slice p1 l1 c1, .bool s2, .slice p2 l2 c2], .bool ok]) ?_ rfl ⟨_, ok, rfl, ⟨_, _, _, _, _, _, _, _, rfl⟩, ⟨fun h _ => HR.o.2.1.1 h, fun h => HR.o.2.1.2 (h (by first | rfl | trivial))⟩, fun hok => ?_, hB9⟩
 ·simp [results, Tryz.results68, go_sem, v0, v1, v2, v3, v4, v5]
 obtain ⟨x, y, hV, hq⟩ := HR.o.2.2 hok; have hl := ratV_lt hV; have hq2 := ((hq.mono (B' := 0) (Nat.zero_le _) leR).below HB1.o).tight hl.1 hl.2.1; obtain ⟨i1, i2⟩ := qr_parts hq2; refine ⟨x, y, ?_, _, _, _, _, _, _, _, _, rfl, i1.keeps hnR hnR HKK, i2.keeps hnR hnR HKK⟩; unfold RdE; rw [if_pos rfl]; exact hV
set_option maxRecDepth 100000 in
set_option maxHeartbeats 2000000 in
theorem nothingBetween_any (zl zh : Value) (h1 o1 : Bool) (x1 y1 : Int) (h2 o2 : Bool) (x2 y2 : Int) (n : Nat) (w : World) (hl : IsE w zl h1 o1 x1 y1 n) (hh : IsE w zh h2 o2 x2 y2 n) (hn : n ≤ 10000) (hSP : SP w) :
 Calls Tryz.prog 69 #[zl, zh] w fun e w' => e = .returned (.bool (NoneB h1 o1 x1 y1 h2 o2 x2 y2)) ∧ Up w w' := by
 obtain ⟨s1, p1, l1, c1, s2, p2, l2, c2, rfl, i1, i2⟩ := hl; obtain ⟨s3, p3, l3, c3, s4, p4, l4, c4, rfl, i3, i4⟩ := hh; have H1 := Hd i1; have H2 := Hd i2; have H3 := Hd i3; have H4 := Hd i4; have HSP := Hd hSP; clear i1 i2 i3 i4 hSP; obtain ⟨W0, hW0⟩ := exW ((w.alloc (.cells #[.bool h1, .bool o1, .bool s1, .slice p1 l1 c1, .bool s2, .slice p2 l2 c2] 82)).alloc (.cells #[.bool h2, .bool o2, .bool s3, .slice p3 l3 c3, .bool s4, .slice p4 l4 c4] 82)); have HW0 := Hd hW0; have HB0 : Hid (Up w W0) := by unfold Hid; rw [← hW0]; exact below_al (below_alloc _ _) _
 have HS0 : Hid (W0.heap.size = w.heap.size + 2) := by show W0.heap.size = _; rw [← hW0]; simp
 have hx0_0 : Bx W0 (w.heap.size) [.bool h1, .bool o1, .bool s1, .slice p1 l1 c1, .bool s2, .slice p2 l2 c2] := by
  rw [← hW0]; exact (bx_new w _ _).alloc _
 have hx0_1 : Bx W0 (w.heap.size + 1) [.bool h2, .bool o2, .bool s3, .slice p3 l3 c3, .bool s4, .slice p4 l4 c4] := by
  rw [← hW0]; have h := bx_new (w.alloc (.cells #[.bool h1, .bool o1, .bool s1, .slice p1 l1 c1, .bool s2, .slice p2 l2 c2] 82)) [.bool h2, .bool o2, .bool s3, .slice p3 l3 c3, .bool s4, .slice p4 l4 c4] 82; rw [World.size_alloc] at h; exact h
 have HX0 : Hid (∀ W, Up W0 W → Bx W (w.heap.size) [.bool h1, .bool o1, .bool s1, .slice p1 l1 c1, .bool s2, .slice p2 l2 c2] ∧ Bx W (w.heap.size + 1) [.bool h2, .bool o2, .bool s3, .slice p3 l3 c3, .bool s4, .slice p4 l4 c4]) := fun W hW => ⟨hx0_0.below hx0_0.lt hW, hx0_1.below hx0_1.lt hW⟩; obtain ⟨k0, k1, k2, k3, k4, k5⟩ := hx0_0.c6; obtain ⟨j0, j1, j2, j3, j4, j5⟩ := hx0_1.c6; clear hW0 hx0_0 hx0_1; cases h1
 ·go_enter Tryz.func69, Tryz.ntmps69
  go_upto_region 1 with fail
  rw [HW0.o]
  go_wp2
  go_ret
  exact ⟨rfl, HB0.o⟩
 cases h2
 ·go_enter Tryz.func69, Tryz.ntmps69
  go_upto_region 1 with fail
  rw [HW0.o]
  go_wp2
  go_ret
  exact ⟨rfl, HB0.o⟩
 go_enter Tryz.func69, Tryz.ntmps69
 go_upto_region 1 with fail
 rw [HW0.o]
 go_wp2_with fail
 refine (compareQ_any 0 _ _ x1 y1 x2 y2 n _ (Nat.zero_le _) (qr_mk (H1.o.below HB0.o) (H2.o.below HB0.o)) (qr_mk (H3.o.below HB0.o) (H4.o.below HB0.o)) hn (HSP.o.below HB0.o)).mono ?_; rintro e wa ⟨rfl, hb1⟩; have HB1 : Hid (Up w wa) := HB0.o.trans (hb1.mono HB0.o.size); have hxa := HX0.o wa hb1; have hxa0 := hxa.1; have hxa1 := hxa.2; have m1 := hxa0.cell 1; have q1 := hxa1.cell 1; simp only [List.getElem?_cons_zero, List.getElem?_cons_succ] at m1 q1; have HO : Hid (NoneB true o1 x1 y1 true o2 x2 y2 = (decide (0 < ordI (x1 * y2) (x2 * y1)) || (decide (ordI (x1 * y2) (x2 * y1) = 0) && (o1 || o2)))) := none_ord o1 o2 x1 y1 x2 y2; have h3 := ordI_three (x1 * y2) (x2 * y1); clear hb1 hxa hxa0 hxa1 k0 k1 k2 k3 k4 k5 j0 j1 j2 j3 j4 j5; obtain ⟨r, hr⟩ := exW (ordI (x1 * y2) (x2 * y1)); rw [hr] at h3 HO ⊢; clear hr
 rcases h3 with rfl | rfl | rfl
 ·go_wp2
  go_ret
  exact ⟨ret_bool (by rw [HO.o]; rfl), HB1.o⟩
 ·cases o1 <;> cases o2
  all_goals
   go_wp2
   go_ret
   exact ⟨ret_bool (by rw [HO.o]; rfl), HB1.o⟩
 go_wp2
 go_ret
 exact ⟨ret_bool (by rw [HO.o]; rfl), HB1.o⟩
set_option maxRecDepth 100000 in
set_option maxHeartbeats 4000000 in
theorem simplestBetween_any (zl zh : Value) (h1 o1 : Bool) (x1 y1 : Int) (h2 o2 : Bool) (x2 y2 : Int) (w : World) (hl : IsE w zl h1 o1 x1 y1 281) (hh : IsE w zh h2 o2 x2 y2 281) (t : Two h1 o1 x1 y1 h2 o2 x2 y2)
 (hb : x1.natAbs < lb 281 ∧ y1.natAbs < lb 281 ∧ x2.natAbs < lb 281 ∧ y2.natAbs < lb 281) (hSP : SP w) :
 Calls Tryz.prog 70 #[zl, zh] w fun e w' => ∃ z p q, e = .returned z ∧ IsQR 0 w' z p q 282 ∧ Best h1 o1 x1 y1 h2 o2 x2 y2 p q ∧ Up w w' := by
 obtain ⟨s1, p1, l1, c1, s2, p2, l2, c2, rfl, i1, i2⟩ := hl; obtain ⟨s3, p3, l3, c3, s4, p4, l4, c4, rfl, i3, i4⟩ := hh; have H1 := Hd i1; have H2 := Hd i2; have H3 := Hd i3; have H4 := Hd i4; have HSP := Hd hSP; have HT := Hd t; have HLB := Hd hb; clear i1 i2 i3 i4 hSP t hb; obtain ⟨W0, hW0⟩ := exW (((w.alloc (.cells #[.bool h1, .bool o1, .bool s1, .slice p1 l1 c1, .bool s2, .slice p2 l2 c2] 82)).alloc (.cells #[.bool h2, .bool o2, .bool s3, .slice p3 l3 c3, .bool s4, .slice p4 l4 c4] 82)).alloc (.cells #[.bool false, .slice none 0 0, .bool false, .slice none 0 0] 64)); have HW0 := Hd hW0; have HB0 : Hid (Up w W0) := by unfold Hid; rw [← hW0]; exact below_al (below_al (below_alloc _ _) _) _
 have HS0 : Hid (W0.heap.size = w.heap.size + 3) := by show W0.heap.size = _; rw [← hW0]; simp
 have hx0_0 : Bx W0 (w.heap.size) [.bool h1, .bool o1, .bool s1, .slice p1 l1 c1, .bool s2, .slice p2 l2 c2] := by
  rw [← hW0]; exact ((bx_new w _ _).alloc _).alloc _
 have hx0_1 : Bx W0 (w.heap.size + 1) [.bool h2, .bool o2, .bool s3, .slice p3 l3 c3, .bool s4, .slice p4 l4 c4] := by
  rw [← hW0]; have h := bx_new (w.alloc (.cells #[.bool h1, .bool o1, .bool s1, .slice p1 l1 c1, .bool s2, .slice p2 l2 c2] 82)) [.bool h2, .bool o2, .bool s3, .slice p3 l3 c3, .bool s4, .slice p4 l4 c4] 82; rw [World.size_alloc] at h; exact (h).alloc _
 have hx0_2 : Bx W0 (w.heap.size + 1 + 1) [.bool false, .slice none 0 0, .bool false, .slice none 0 0] := by
  rw [← hW0]; have h := bx_new ((w.alloc (.cells #[.bool h1, .bool o1, .bool s1, .slice p1 l1 c1, .bool s2, .slice p2 l2 c2] 82)).alloc (.cells #[.bool h2, .bool o2, .bool s3, .slice p3 l3 c3, .bool s4, .slice p4 l4 c4] 82)) [.bool false, .slice none 0 0, .bool false, .slice none 0 0] 64; rw [World.size_alloc, World.size_alloc] at h; exact h
 have HX0 : Hid (∀ W, Up W0 W → Bx W (w.heap.size) [.bool h1, .bool o1, .bool s1, .slice p1 l1 c1, .bool s2, .slice p2 l2 c2] ∧ Bx W (w.heap.size + 1) [.bool h2, .bool o2, .bool s3, .slice p3 l3 c3, .bool s4, .slice p4 l4 c4] ∧ Bx W (w.heap.size + 1 + 1) [.bool false, .slice none 0 0, .bool false, .slice none 0 0]) := fun W hW => ⟨hx0_0.below hx0_0.lt hW, hx0_1.below hx0_1.lt hW, hx0_2.below hx0_2.lt hW⟩; clear hW0 hx0_0 hx0_1 hx0_2
 go_enter Tryz.func70, Tryz.ntmps70
 go_upto_region 1 with fail
 rw [HW0.o]
 go_wp2_with fail
 refine (wholeRational_any false none 0 0 W0).mono ?_; rintro e w1 ⟨s6, p6, l6, c6, rfl, hone, hb1⟩; have HC1 := Hd hb1; have HONE := Hd (hone.mono (B' := 0) (n' := 281) (Nat.zero_le _) (by decide)); clear hone hb1; obtain ⟨W1, hW1⟩ := exW (w1.alloc (.cells #[.bool false, .slice none 0 0, .bool s6, .slice p6 l6 c6] 64)); have HW1 := Hd hW1; have HB1 : Hid (Up w1 W1) := by unfold Hid; rw [← hW1]; exact below_alloc _ _
 have HS1 : Hid (W1.heap.size = w1.heap.size + 1) := by show W1.heap.size = _; rw [← hW1]; simp
 have hx1_0 : Bx W1 (w1.heap.size) [.bool false, .slice none 0 0, .bool s6, .slice p6 l6 c6] := by
  rw [← hW1]; exact bx_new w1 _ _
 have HX1 : Hid (∀ W, Up W1 W → Bx W (w1.heap.size) [.bool false, .slice none 0 0, .bool s6, .slice p6 l6 c6]) := fun W hW => hx1_0.below hx1_0.lt hW; have HA1 : Hid (Up W0 W1) := HC1.o.trans (HB1.o.mono HC1.o.size); have HO1 := Hd (HONE.o.below HB1.o); have hb0 := (HX0.o W1 HA1.o).1; obtain ⟨k0, k1, k2, k3, k4, k5⟩ := hb0.c6; obtain ⟨r0, r1, r2, r3⟩ := hx1_0.c4; clear hW1 hx1_0 hb0
 go_upto_region 2 with fail
 rw [HW1.o]
 go_wp2_with fail
 refine (admitsAbove_any _ _ h1 o1 x1 y1 0 1 281 W1 ⟨_, _, _, _, _, _, _, _, rfl, (H1.o.below HB0.o).below HA1.o, (H2.o.below HB0.o).below HA1.o⟩ (qr_mk (isI_nil _ _) HO1.o) (by decide) ((HSP.o.below HB0.o).below HA1.o)).mono ?_; rintro e w2 ⟨rfl, hb2⟩; have HC2 := Hd hb2; have HA2 : Hid (Up W0 w2) := HA1.o.trans (hb2.mono HA1.o.size); have HO2 := Hd (HO1.o.below hb2); rw [adm_zl]; clear hb2 k0 k1 k2 k3 k4 k5 r0 r1 r2 r3; have hxb := HX0.o w2 HA2.o; have hk0 := hxb.1; have hk1 := hxb.2.1; have hk6 := HX1.o w2 HC2.o; obtain ⟨k0, k1, k2, k3, k4, k5⟩ := hk0.c6; obtain ⟨j0, j1, j2, j3, j4, j5⟩ := hk1.c6; obtain ⟨m0, m1, m2, m3⟩ := hk6.c4; clear hxb hk0 hk1 hk6
 cases hlo : lowOut h1 o1 x1
 ·have HLO := Hd hlo; clear hlo
  go_wp2_with fail
  refine (admitsBelow_any _ _ h2 o2 x2 y2 0 1 281 w2 ⟨_, _, _, _, _, _, _, _, rfl, (H3.o.below HB0.o).below HA2.o, (H4.o.below HB0.o).below HA2.o⟩ (qr_mk (isI_nil _ _) HO2.o) (by decide) ((HSP.o.below HB0.o).below HA2.o)).mono ?_; rintro e w3 ⟨rfl, hb3⟩; have HC3 : Hid (Up W1 w3) := HC2.o.trans (hb3.mono HC2.o.size); have HA3 : Hid (Up W0 w3) := HA2.o.trans (hb3.mono HA2.o.size); have HO3 := Hd (HO2.o.below hb3); rw [adm_zh]; clear hb3 k0 k1 k2 k3 k4 k5 j0 j1 j2 j3 j4 j5 m0 m1 m2 m3; have hxb := HX0.o w3 HA3.o; have hk0 := hxb.1; have hk1 := hxb.2.1; have hk2 := hxb.2.2; have hk6 := HX1.o w3 HC3.o; obtain ⟨k0, k1, k2, k3, k4, k5⟩ := hk0.c6; obtain ⟨j0, j1, j2, j3, j4, j5⟩ := hk1.c6; obtain ⟨q0, q1, q2, q3⟩ := hk2.c4; obtain ⟨qf0, qf1, qf2, qf3⟩ := hk2.f4; obtain ⟨m0, m1, m2, m3⟩ := hk6.c4; clear hxb hk0 hk1 hk2 hk6
  cases hho : highOut h2 o2 x2
  ·have HBE : Hid (Best h1 o1 x1 y1 h2 o2 x2 y2 0 1) := by
    unfold Hid
    unfold Best; rw [if_neg (by rw [HLO.o]; decide), if_neg (by rw [hho]; decide)]; exact ⟨rfl, rfl⟩
   clear hho
   go_wp2
   have hbr := (HX0.o w3 HA3.o).2.2; have hnR : NoInt w3 (w.heap.size + 1 + 1) := noInt_of hbr (by simp); have HK := keepsC4 w3 (w.heap.size + 1 + 1) (.bool false) (.slice none 0 0) (.bool s6) (.slice p6 l6 c6); have hD1 := (isI_nil w3 282).keeps hnR hnR HK; have hD2 := (HO3.o.mono leR (n' := 282) (by decide)).keeps hnR hnR HK; have hB9 := bs4 (HB0.o.trans (HA3.o.mono HB0.o.size)) (w.heap.size + 1 + 1) (by omega) (.bool false) (.slice none 0 0) (.bool s6) (.slice p6 l6 c6); have hZ9 := hbr.s4 (.bool false) (.slice none 0 0) (.bool s6) (.slice p6 l6 c6); generalize (((w3.setCell ⟨w.heap.size + 1 + 1, 0, none⟩ (.bool false)).setCell ⟨w.heap.size + 1 + 1, 1, none⟩ (.slice none 0 0)).setCell ⟨w.heap.size + 1 + 1, 2, none⟩ (.bool s6)).setCell ⟨w.heap.size + 1 + 1, 3, none⟩ (.slice p6 l6 c6) = W9 at *; obtain ⟨v0, v1, v2, v3⟩ := hZ9.c4; refine bodyPost_ret (v := .agg #[.bool false, .slice none 0 0, .bool s6, .slice p6 l6 c6]) ?_ rfl ⟨_, _, _, rfl, qr_mk hD1 hD2, HBE.o, hB9⟩; simp [results, Tryz.results70, go_sem, v0, v1, v2, v3]
  have hml := HT.o.mirror.low (by rw [← high_low]; exact hho); have hh2 := hml.1; have HE := Hd hml.2; have HBE : Hid (∀ p q, Sim o2 (-x2) y2 h1 o1 (-x1) y1 p q → Best h1 o1 x1 y1 h2 o2 x2 y2 (-p) q) := fun p q hs => by
   unfold Best; rw [if_neg (by rw [HLO.o]; decide), if_pos hho]; exact ⟨p, rfl, hs⟩
  subst hh2; have TA : Hid (∀ W, Up w3 W → Calls Tryz.prog 121 #[.agg #[.bool true, .bool o2, .bool s3, .slice p3 l3 c3, .bool s4, .slice p4 l4 c4]] W (fun e w' => ∃ z', e = .returned z' ∧ IsE w' z' true o2 (-x2) y2 281 ∧ Up W w')) := fun W hW => mirrored_any _ true o2 x2 y2 281 W ⟨_, _, _, _, _, _, _, _, rfl, ((H3.o.below HB0.o).below HA3.o).below hW, ((H4.o.below HB0.o).below HA3.o).below hW⟩; have TB : Hid (∀ W, Up w3 W → Calls Tryz.prog 121 #[.agg #[.bool h1, .bool o1, .bool s1, .slice p1 l1 c1, .bool s2, .slice p2 l2 c2]] W (fun e w' => ∃ z', e = .returned z' ∧ IsE w' z' h1 o1 (-x1) y1 281 ∧ Up W w')) := fun W hW => mirrored_any _ h1 o1 x1 y1 281 W ⟨_, _, _, _, _, _, _, _, rfl, ((H1.o.below HB0.o).below HA3.o).below hW, ((H2.o.below HB0.o).below HA3.o).below hW⟩; have TC : Hid (∀ W za zb, Up w3 W → IsE W za true o2 (-x2) y2 281 → IsE W zb h1 o1 (-x1) y1 281 → Calls Tryz.prog 119 #[za, zb] W (fun e w' => ∃ z p q, e = .returned z ∧ IsQR 0 w' z p q 282 ∧ Sim o2 (-x2) y2 h1 o1 (-x1) y1 p q ∧ Up W w')) := fun W za zb hW ha hb =>
   simplestAbove_any _ o2 (-x2) y2 h1 o1 (-x1) y1 za zb W leR ha hb HE.o ⟨by rw [Int.natAbs_neg]; exact HLB.o.2.2.1, HLB.o.2.2.2, by rw [Int.natAbs_neg]; exact HLB.o.1, HLB.o.2.1⟩ (((HSP.o.below HB0.o).below HA3.o).below hW)
  clear hho hml
  go_wp2_with fail
  go_region_held3 (fun W => W.cell? ⟨w.heap.size, 0, none⟩ = some (.bool h1) ∧ W.cell? ⟨w.heap.size, 1, none⟩ = some (.bool o1) ∧ W.cell? ⟨w.heap.size, 2, none⟩ = some (.bool s1) ∧ W.cell? ⟨w.heap.size, 3, none⟩ = some (.slice p1 l1 c1) ∧ W.cell? ⟨w.heap.size, 4, none⟩ = some (.bool s2) ∧ W.cell? ⟨w.heap.size, 5, none⟩ = some (.slice p2 l2 c2) ∧ W.cell? ⟨w.heap.size + 1, 0, none⟩ = some (.bool true) ∧ W.cell? ⟨w.heap.size + 1, 1, none⟩ = some (.bool o2) ∧ W.cell? ⟨w.heap.size + 1, 2, none⟩ = some (.bool s3) ∧ W.cell? ⟨w.heap.size + 1, 3, none⟩ = some (.slice p3 l3 c3) ∧ W.cell? ⟨w.heap.size + 1, 4, none⟩ = some (.bool s4) ∧ W.cell? ⟨w.heap.size + 1, 5, none⟩ = some (.slice p4 l4 c4)) (first
   | with_reducible assumption | with_reducible exact putS_12_4 (by with_reducible assumption) (w.heap.size + 1 + 1) (by dsimp only; omega) _ _ _ _ | go_keep) (first
   | (go_at_call_of 121 (Value.slice p3 l3 c3)
      refine (TA.o _ ?_).mono ?_
      ·exact (Below.refl _ w3).drew
      rintro e wt1 ⟨u1, rfl, hu, hb⟩; have HU1 := Hd hu; have HQ1 : Hid (Up w3 wt1) := (Below.refl _ w3).drew.trans hb; have hxa := HX0.o wt1 (HA3.o.trans (HQ1.o.mono HA3.o.size)); have hSwt1 := cc6_6 hxa.1 hxa.2.1; clear hxa; clear hu hb)
   | (go_at_call_of 121 (Value.slice p1 l1 c1)
      refine (TB.o _ HQ1.o).mono ?_; rintro e wt2 ⟨u2, rfl, hu, hb⟩; have HU2 := Hd hu; have HV1 := Hd (HU1.o.below hb); have HQ2 : Hid (Up w3 wt2) := HQ1.o.trans (hb.mono HQ1.o.size); have hxa := HX0.o wt2 (HA3.o.trans (HQ2.o.mono HA3.o.size)); have hSwt2 := cc6_6 hxa.1 hxa.2.1; clear hxa; clear hu hb)
   | (go_at_call 119
      refine (TC.o _ _ _ HQ2.o HV1.o HU2.o).mono ?_; rintro e wt3 ⟨u3, p, q, rfl, hu, hsim, hb⟩; have HU3 := Hd hu; have HSI := Hd hsim; have HQ3 : Hid (Up w3 wt3) := HQ2.o.trans (hb.mono HQ2.o.size); have hxa := HX0.o wt3 (HA3.o.trans (HQ3.o.mono HA3.o.size)); have hSwt3 := cc6_6 hxa.1 hxa.2.1; clear hxa; clear hu hsim hb)
   | (go_at_call 122
      refine (negQ_any _ p q 282 _ HU3.o).mono ?_; rintro e wm ⟨u4, rfl, hu, hb⟩; have HU4 := Hd hu; obtain ⟨t1, a1, e1, g1, t2, a2, e2, g2, rfl, _, _⟩ := hu.shape; have HQM : Hid (Up w3 wm) := HQ3.o.trans (hb.mono HQ3.o.size); have hxa := HX0.o wm (HA3.o.trans (HQM.o.mono HA3.o.size)); have hSwm := cc6_6 hxa.1 hxa.2.1; clear hxa; have hxr := (HX0.o wm (HA3.o.trans (HQM.o.mono HA3.o.size))).2.2; obtain ⟨r0, r1, r2, r3⟩ := hxr.c4; obtain ⟨rf0, rf1, rf2, rf3⟩ := hxr.f4; clear hu hb hxr))
  all_goals
   try simp only [List.getElem_toArray, List.getElem_cons_succ, List.getElem_cons_zero, Act.put, List.setIfInBounds_toArray, List.set_cons_succ, List.set_cons_zero]
   go_wp2
   have HA9 := HA3.o.trans (HQM.o.mono HA3.o.size); have hqq := qr_parts HU4.o; have hbr := (HX0.o wm HA9).2.2; have hnR : NoInt wm (w.heap.size + 1 + 1) := noInt_of hbr (by simp); have HK := keepsC4 wm (w.heap.size + 1 + 1) (.bool t1) (.slice a1 e1 g1) (.bool t2) (.slice a2 e2 g2); have hD1 := (hqq.1).keeps hnR hnR HK; have hD2 := (hqq.2).keeps hnR hnR HK; have hB9 := bs4 (HB0.o.trans (HA9.mono HB0.o.size)) (w.heap.size + 1 + 1) (by omega) (.bool t1) (.slice a1 e1 g1) (.bool t2) (.slice a2 e2 g2); have hZ9 := hbr.s4 (.bool t1) (.slice a1 e1 g1) (.bool t2) (.slice a2 e2 g2); generalize (((wm.setCell ⟨w.heap.size + 1 + 1, 0, none⟩ (.bool t1)).setCell ⟨w.heap.size + 1 + 1, 1, none⟩ (.slice a1 e1 g1)).setCell ⟨w.heap.size + 1 + 1, 2, none⟩ (.bool t2)).setCell ⟨w.heap.size + 1 + 1, 3, none⟩ (.slice a2 e2 g2) = W9 at *; obtain ⟨v0, v1, v2, v3⟩ := hZ9.c4; refine bodyPost_ret (v := .agg #[.bool t1, .slice a1 e1 g1, .bool t2, .slice a2 e2 g2]) ?_ rfl ⟨_, _, _, rfl, qr_mk hD1 hD2, HBE.o _ _ HSI.o, hB9⟩; simp [results, Tryz.results70, go_sem, v0, v1, v2, v3]
 have hml := HT.o.low hlo; have hh1 := hml.1; have HE := Hd hml.2; have HBE : Hid (∀ p q, Sim o1 x1 y1 h2 o2 x2 y2 p q → Best h1 o1 x1 y1 h2 o2 x2 y2 p q) := fun p q hs => by
  unfold Best; rw [if_pos hlo]; exact hs
 subst hh1; clear hlo hml
 go_wp2_with fail
 refine (simplestAbove_any _ o1 x1 y1 h2 o2 x2 y2 _ _ w2 leR ⟨_, _, _, _, _, _, _, _, rfl, (H1.o.below HB0.o).below HA2.o, (H2.o.below HB0.o).below HA2.o⟩ ⟨_, _, _, _, _, _, _, _, rfl, (H3.o.below HB0.o).below HA2.o, (H4.o.below HB0.o).below HA2.o⟩ HE.o HLB.o ((HSP.o.below HB0.o).below HA2.o)).mono ?_; rintro e w3 ⟨z, p, q, rfl, hq, hsim, hb3⟩; obtain ⟨t1, a1, e1, g1, t2, a2, e2, g2, rfl, _, _⟩ := hq.shape; have HQ := Hd hq; have HSI := Hd hsim; have HA3 : Hid (Up W0 w3) := HA2.o.trans (hb3.mono HA2.o.size); clear hq hsim hb3 k0 k1 k2 k3 k4 k5 j0 j1 j2 j3 j4 j5 m0 m1 m2 m3; have hk2 := (HX0.o w3 HA3.o).2.2; obtain ⟨q0, q1, q2, q3⟩ := hk2.c4; obtain ⟨qf0, qf1, qf2, qf3⟩ := hk2.f4; clear hk2
 go_wp2
 have hqq := qr_parts HQ.o; have hbr := (HX0.o w3 HA3.o).2.2; have hnR : NoInt w3 (w.heap.size + 1 + 1) := noInt_of hbr (by simp); have HK := keepsC4 w3 (w.heap.size + 1 + 1) (.bool t1) (.slice a1 e1 g1) (.bool t2) (.slice a2 e2 g2); have hD1 := (hqq.1).keeps hnR hnR HK; have hD2 := (hqq.2).keeps hnR hnR HK; have hB9 := bs4 (HB0.o.trans (HA3.o.mono HB0.o.size)) (w.heap.size + 1 + 1) (by omega) (.bool t1) (.slice a1 e1 g1) (.bool t2) (.slice a2 e2 g2); have hZ9 := hbr.s4 (.bool t1) (.slice a1 e1 g1) (.bool t2) (.slice a2 e2 g2); generalize (((w3.setCell ⟨w.heap.size + 1 + 1, 0, none⟩ (.bool t1)).setCell ⟨w.heap.size + 1 + 1, 1, none⟩ (.slice a1 e1 g1)).setCell ⟨w.heap.size + 1 + 1, 2, none⟩ (.bool t2)).setCell ⟨w.heap.size + 1 + 1, 3, none⟩ (.slice a2 e2 g2) = W9 at *; obtain ⟨v0, v1, v2, v3⟩ := hZ9.c4; refine bodyPost_ret (v := .agg #[.bool t1, .slice a1 e1 g1, .bool t2, .slice a2 e2 g2]) ?_ rfl ⟨_, _, _, rfl, qr_mk hD1 hD2, HBE.o _ _ HSI.o, hB9⟩; simp [results, Tryz.results70, go_sem, v0, v1, v2, v3]
theorem resS_no {h1 o1 : Bool} {t1 : ByteArray} {h2 o2 : Bool} {t2 : ByteArray} {k1 k2 : Option Nat} (c1 : IsCut t1 k1) (c2 : IsCut t2 k2) (h : ¬ (h1 = true → ∃ x y, RatV t1 k1 x y) ∨ ¬ (h2 = true → ∃ x y, RatV t2 k2 x y)) : ResS h1 o1 t1 h2 o2 t2 ⟨#[]⟩ := by
 refine ⟨k1, k2, c1, c2, .inr ⟨?_, rfl⟩⟩; rintro ⟨x1, y1, x2, y2, r1, r2⟩; unfold RdE at r1 r2
 rcases h with h | h
 ·refine h fun e => ?_; rw [if_pos e] at r1; exact ⟨_, _, r1⟩
 refine h fun e => ?_; rw [if_pos e] at r2; exact ⟨_, _, r2⟩
set_option maxRecDepth 100000 in
set_option maxHeartbeats 4000000 in
theorem implSimplest_any (h1 o1 : Bool) (t1 : ByteArray) (h2 o2 : Bool) (t2 : ByteArray) (w : World) (ht1 : t1.size ≤ maxLen) (ht2 : t2.size ≤ maxLen) (hSP : SP w) (hNS : NS w) (hLT : LT w) :
 Calls Tryz.prog 27 #[.agg #[.bool h1, .bool o1, .string t1], .agg #[.bool h2, .bool o2, .string t2]] w fun e w' => ∃ u, e = .returned (.string u) ∧ ResS h1 o1 t1 h2 o2 t2 u ∧ Up w w' := by
 obtain ⟨k1_, hk1⟩ := isCut_ex t1; obtain ⟨k2_, hk2⟩ := isCut_ex t2; have HK1 := Hd hk1; have HK2 := Hd hk2; have HSP := Hd hSP; have HNS := Hd hNS; have HLT := Hd hLT; clear hk1 hk2 hSP hNS hLT; obtain ⟨W0, hW0⟩ := exW ((w.alloc (.cells #[.bool h1, .bool o1, .string t1] 31)).alloc (.cells #[.bool h2, .bool o2, .string t2] 31)); have HW0 := Hd hW0; have HB0 : Hid (Up w W0) := by unfold Hid; rw [← hW0]; exact below_al (below_alloc _ _) _
 have HS0 : Hid (W0.heap.size = w.heap.size + 2) := by show W0.heap.size = _; rw [← hW0]; simp
 have hx0_0 : Bx W0 (w.heap.size) [.bool h1, .bool o1, .string t1] := by
  rw [← hW0]; exact (bx_new w _ _).alloc _
 have hx0_1 : Bx W0 (w.heap.size + 1) [.bool h2, .bool o2, .string t2] := by
  rw [← hW0]; have h := bx_new (w.alloc (.cells #[.bool h1, .bool o1, .string t1] 31)) [.bool h2, .bool o2, .string t2] 31; rw [World.size_alloc] at h; exact h
 have HX0 : Hid (∀ W, Up W0 W → Bx W (w.heap.size) [.bool h1, .bool o1, .string t1] ∧ Bx W (w.heap.size + 1) [.bool h2, .bool o2, .string t2]) := fun W hW => ⟨hx0_0.below hx0_0.lt hW, hx0_1.below hx0_1.lt hW⟩; obtain ⟨k0, k1, k2⟩ := hx0_0.c3; clear hW0 hx0_0 hx0_1
 go_enter Tryz.func27, Tryz.ntmps27
 go_upto_region 1 with fail
 rw [HW0.o]
 go_wp2_with fail
 refine (readEnd_any h1 o1 t1 k1_ W0 ht1 HK1.o (HSP.o.below HB0.o) (HNS.o.below HB0.o) (HLT.o.below HB0.o)).mono ?_; rintro e w1 ⟨z1, ok1, rfl, hsh, hiff, hyes, hb1⟩; obtain ⟨oo1, hoo1⟩ : ∃ b, (h1 && o1) = b := ⟨_, rfl⟩; rw [hoo1] at hsh hyes; have HOO1 := Hd hoo1; obtain ⟨s1, p1, l1, c1, s2, p2, l2, c2, rfl⟩ := hsh; have HIF1 := Hd hiff; have HY1 := Hd hyes; have HC1 := Hd hb1; clear hiff hyes hb1 hoo1 k0 k1 k2; obtain ⟨W1, hW1⟩ := exW (w1.alloc (.cells #[.bool h1, .bool oo1, .bool s1, .slice p1 l1 c1, .bool s2, .slice p2 l2 c2] 82)); have HW1 := Hd hW1; have HB1 : Hid (Up w1 W1) := by unfold Hid; rw [← hW1]; exact below_alloc _ _
 have HS1 : Hid (W1.heap.size = w1.heap.size + 1) := by show W1.heap.size = _; rw [← hW1]; simp
 have hx1_0 : Bx W1 (w1.heap.size) [.bool h1, .bool oo1, .bool s1, .slice p1 l1 c1, .bool s2, .slice p2 l2 c2] := by
  rw [← hW1]; exact bx_new w1 _ _
 have HX1 : Hid (∀ W, Up W1 W → Bx W (w1.heap.size) [.bool h1, .bool oo1, .bool s1, .slice p1 l1 c1, .bool s2, .slice p2 l2 c2]) := fun W hW => hx1_0.below hx1_0.lt hW; have HA1 : Hid (Up W0 W1) := HC1.o.trans (HB1.o.mono HC1.o.size); have hxb := (HX0.o W1 HA1.o).2; obtain ⟨k0, k1, k2⟩ := hxb.c3; clear hW1 hx1_0 hxb
 go_upto_region 2 with fail
 rw [HW1.o]
 go_wp2_with fail
 refine (readEnd_any h2 o2 t2 k2_ W1 ht2 HK2.o ((HSP.o.below HB0.o).below HA1.o) ((HNS.o.below HB0.o).below HA1.o) ((HLT.o.below HB0.o).below HA1.o)).mono ?_; rintro e w2 ⟨z2, ok2, rfl, hsh, hiff, hyes, hb2⟩; obtain ⟨oo2, hoo2⟩ : ∃ b, (h2 && o2) = b := ⟨_, rfl⟩; rw [hoo2] at hsh hyes; have HOO2 := Hd hoo2; obtain ⟨s3, p3, l3, c3, s4, p4, l4, c4, rfl⟩ := hsh; have HIF2 := Hd hiff; have HY2 := Hd hyes; have HC2 := Hd hb2; clear hiff hyes hb2 hoo2 k0 k1 k2; obtain ⟨W2, hW2⟩ := exW (w2.alloc (.cells #[.bool h2, .bool oo2, .bool s3, .slice p3 l3 c3, .bool s4, .slice p4 l4 c4] 82)); have HW2 := Hd hW2; have HB2 : Hid (Up w2 W2) := by unfold Hid; rw [← hW2]; exact below_alloc _ _
 have HS2 : Hid (W2.heap.size = w2.heap.size + 1) := by show W2.heap.size = _; rw [← hW2]; simp
 have hx2_0 : Bx W2 (w2.heap.size) [.bool h2, .bool oo2, .bool s3, .slice p3 l3 c3, .bool s4, .slice p4 l4 c4] := by
  rw [← hW2]; exact bx_new w2 _ _
 have HX2 : Hid (∀ W, Up W2 W → Bx W (w2.heap.size) [.bool h2, .bool oo2, .bool s3, .slice p3 l3 c3, .bool s4, .slice p4 l4 c4]) := fun W hW => hx2_0.below hx2_0.lt hW; have HA12 : Hid (Up W1 W2) := HC2.o.trans (HB2.o.mono HC2.o.size); have HA2 : Hid (Up W0 W2) := HA1.o.trans (HA12.o.mono HA1.o.size); have HE2 : Hid (Up w W2) := HB0.o.trans (HA2.o.mono HB0.o.size); have hxb := HX1.o W2 HA12.o; obtain ⟨k0, k1, k2, k3, k4, k5⟩ := hxb.c6; obtain ⟨j0, j1, j2, j3, j4, j5⟩ := hx2_0.c6; clear hW2 hx2_0 hxb
 go_upto_region 3 with fail
 rw [HW2.o]
 cases ok1
 ·have HN : Hid (ResS h1 o1 t1 h2 o2 t2 ⟨#[]⟩) := resS_no HK1.o HK2.o (.inl fun h => Bool.noConfusion (HIF1.o.2 h))
  go_wp2
  go_ret
  exact ⟨_, rfl, HN.o, HE2.o⟩
 cases ok2
 ·have HN : Hid (ResS h1 o1 t1 h2 o2 t2 ⟨#[]⟩) := resS_no HK1.o HK2.o (.inr fun h => Bool.noConfusion (HIF2.o.2 h))
  go_wp2
  go_ret
  exact ⟨_, rfl, HN.o, HE2.o⟩
 obtain ⟨x1, y1, hr1, he1⟩ := HY1.o (by first | rfl | trivial); obtain ⟨x2, y2, hr2, he2⟩ := HY2.o (by first | rfl | trivial); have HR1 := Hd hr1; have HR2 := Hd hr2; have HI1 := Hd ((he1.below (HB1.o.trans (HA12.o.mono HB1.o.size))).mono (n' := 281) (by decide)); have HI2 := Hd ((he2.below HB2.o).mono (n' := 281) (by decide)); clear hr1 hr2 he1 he2
 go_wp2_with fail
 refine (nothingBetween_any _ _ h1 oo1 x1 y1 h2 oo2 x2 y2 281 W2 HI1.o HI2.o (by decide) ((HSP.o.below HB0.o).below HA2.o)).mono ?_; rintro e w3 ⟨rfl, hb3⟩; have HA3 : Hid (Up W0 w3) := HA2.o.trans (hb3.mono HA2.o.size); have HC3 := Hd hb3; have HE3 : Hid (Up w w3) := HB0.o.trans (HA3.o.mono HB0.o.size); clear hb3 k0 k1 k2 k3 k4 k5 j0 j1 j2 j3 j4 j5; have hxb := HX1.o w3 (HA12.o.trans (HC3.o.mono HA12.o.size)); have hxc := HX2.o w3 HC3.o; obtain ⟨k0, k1, k2, k3, k4, k5⟩ := hxb.c6; obtain ⟨j0, j1, j2, j3, j4, j5⟩ := hxc.c6; clear hxb hxc
 cases hnb : NoneB h1 oo1 x1 y1 h2 oo2 x2 y2
 ·have HTW : Hid (Two h1 oo1 x1 y1 h2 oo2 x2 y2) := ⟨HR1.o.lt.2.2, HR2.o.lt.2.2, hnb⟩; have HF : Hid (∀ p q u, Best h1 oo1 x1 y1 h2 oo2 x2 y2 p q → TextR p q u → ResS h1 o1 t1 h2 o2 t2 u) := fun p q u hbe htx => by
   refine ⟨k1_, k2_, HK1.o, HK2.o, .inl ⟨x1, y1, x2, y2, HR1.o, HR2.o, .inl ?_⟩⟩; rw [HOO1.o, HOO2.o]; exact ⟨hnb, p, q, hbe, htx⟩
  clear hnb
  go_wp2_with fail
  refine (simplestBetween_any _ _ h1 oo1 x1 y1 h2 oo2 x2 y2 w3 (HI1.o.below HC3.o) (HI2.o.below HC3.o) HTW.o ⟨HR1.o.lt.1, HR1.o.lt.2.1, HR2.o.lt.1, HR2.o.lt.2.1⟩ ((HSP.o.below HB0.o).below HA3.o)).mono ?_; rintro e w4 ⟨z, p, q, rfl, hq, hbe, hb4⟩; have HQ := Hd hq; have HBE := Hd hbe; have HA4 : Hid (Up W0 w4) := HA3.o.trans (hb4.mono HA3.o.size); clear hq hbe hb4
  go_wp2_with fail
  refine (textR_any 0 _ p q 282 _ (Nat.zero_le _) HQ.o (by decide) ((HSP.o.below HB0.o).below HA4.o) ((HLT.o.below HB0.o).below HA4.o)).mono ?_; rintro e w5 ⟨u, rfl, hu, hb5⟩; have HRS := Hd (HF.o _ _ _ HBE.o hu); have HE5 : Hid (Up w w5) := HB0.o.trans ((HA4.o.trans (hb5.mono HA4.o.size)).mono HB0.o.size); clear hu hb5
  go_wp2
  go_ret
  exact ⟨_, rfl, HRS.o, HE5.o⟩
 have HN : Hid (ResS h1 o1 t1 h2 o2 t2 ⟨#[]⟩) := by
  unfold Hid
  refine ⟨k1_, k2_, HK1.o, HK2.o, .inl ⟨x1, y1, x2, y2, HR1.o, HR2.o, .inr ?_⟩⟩; rw [HOO1.o, HOO2.o]; exact ⟨hnb, rfl⟩
 clear hnb
 go_wp2
 go_ret
 exact ⟨_, rfl, HN.o, HE3.o⟩
def IsES (w : World) (z : Value) (hs op : Bool) (x y : Int) : Prop := ∃ (a1 : Int) (n1 : Bool) (d1 : Option Addr) (l1 c1 : Nat) (a2 : Int) (n2 : Bool) (d2 : Option Addr) (l2 c2 : Nat), z = .agg #[.bool hs, .bool op, .int .i64 a1, .bool n1, .slice d1 l1 c1, .int .i64 a2, .bool n2, .slice d2 l2 c2] ∧ NumZ 0 w (.agg #[.int .i64 a1, .bool n1, .slice d1 l1 c1]) x 1000 ∧ NumZ 0 w (.agg #[.int .i64 a2, .bool n2, .slice d2 l2 c2]) y 1000
theorem IsES.below {w w' : World} {z : Value} {hs op : Bool} {x y : Int} (h : IsES w z hs op x y) (hb : Up w w') : IsES w' z hs op x y := by
 obtain ⟨a1, n1, d1, l1, c1, a2, n2, d2, l2, c2, e, h1, h2⟩ := h; exact ⟨a1, n1, d1, l1, c1, a2, n2, d2, l2, c2, e, h1.below hb, h2.below hb⟩
theorem qn_mk {w : World} {a1 : Int} {n1 : Bool} {d1 : Option Addr} {l1 c1 : Nat} {a2 : Int} {n2 : Bool} {d2 : Option Addr} {l2 c2 : Nat} {x y : Int} (h1 : NumZ 0 w (.agg #[.int .i64 a1, .bool n1, .slice d1 l1 c1]) x 1000) (h2 : NumZ 0 w (.agg #[.int .i64 a2, .bool n2, .slice d2 l2 c2]) y 1000) : IsQN 0 w (.agg #[.int .i64 a1, .bool n1, .slice d1 l1 c1, .int .i64 a2, .bool n2, .slice d2 l2 c2]) x y := ⟨_, _, _, _, _, _, _, _, _, _, rfl, h1, h2⟩
theorem l1MinusN_any (z : Value) (x : Int) (n : Nat) (w : World) (h : NumZ 0 w z x n) :
 Calls Tryz.prog 75 #[z] w fun e w' => ∃ z', e = .returned z' ∧ NumZ 0 w' z' (-x) n ∧ Up w w' := by
 obtain ⟨neg, t, hz, rfl, hl⟩ := h; refine (l1Minus_any 0 z neg t w hz).mono ?_; rintro e w' ⟨z', rfl, hz', hb⟩; exact ⟨z', rfl, ⟨!neg, t, hz', sg_not _ _, hl⟩, hb⟩
theorem l1SubN_any (za zb : Value) (x y : Int) (n m : Nat) (w : World) (ha : NumZ 0 w za x n) (hb : NumZ 0 w zb y m) (hn : n ≤ 100000) (hm : m ≤ 100000) :
 Calls Tryz.prog 105 #[za, zb] w fun e w' => ∃ z, e = .returned z ∧ IsN 0 w' z (x - y) ∧ Up w w' := by
 obtain ⟨na, a, hza, rfl, hla⟩ := ha; obtain ⟨nb, b, hzb, rfl, hlb⟩ := hb; refine (l1Sub_any 0 za zb na nb a b w (Nat.zero_le _) hza hzb (by omega) (by omega)).mono ?_; rintro e w' ⟨z, rfl, hz, hb⟩; exact ⟨z, rfl, hz.mono (Nat.zero_le _), hb⟩
theorem numZ_val {B : Nat} {w : World} {z : Value} {x : Int} {n : Nat} (h : NumZ B w z x n) : x.natAbs < lb n := by
 obtain ⟨neg, t, hz, rfl, hl⟩ := h; rw [sg_abs]; exact val_lb t hz.1 n hl
theorem cell_farC8 {W : World} {a : Addr} {v : Value} (g : Nat) (h : W.cell? a = some v) (hg : g ≠ a.block) (u0 u1 u2 u3 u4 u5 u6 u7 : Value) : ((((((((W.setCell ⟨g, 0, none⟩ (u0)).setCell ⟨g, 1, none⟩ (u1)).setCell ⟨g, 2, none⟩ (u2)).setCell ⟨g, 3, none⟩ (u3)).setCell ⟨g, 4, none⟩ (u4)).setCell ⟨g, 5, none⟩ (u5)).setCell ⟨g, 6, none⟩ (u6)).setCell ⟨g, 7, none⟩ (u7)).cell? a = some v := by
 rw [World.cell?_setCell_far _ _ _ _ hg, World.cell?_setCell_far _ _ _ _ hg, World.cell?_setCell_far _ _ _ _ hg, World.cell?_setCell_far _ _ _ _ hg, World.cell?_setCell_far _ _ _ _ hg, World.cell?_setCell_far _ _ _ _ hg, World.cell?_setCell_far _ _ _ _ hg, World.cell?_setCell_far _ _ _ _ hg]; exact h
theorem cell_farC3 {W : World} {a : Addr} {v : Value} (g : Nat) (h : W.cell? a = some v) (hg : g ≠ a.block) (u0 u1 u2 : Value) : (((W.setCell ⟨g, 0, none⟩ (u0)).setCell ⟨g, 1, none⟩ (u1)).setCell ⟨g, 2, none⟩ (u2)).cell? a = some v := by
 rw [World.cell?_setCell_far _ _ _ _ hg, World.cell?_setCell_far _ _ _ _ hg, World.cell?_setCell_far _ _ _ _ hg]; exact h
theorem keepsC3 (W : World) (g : Nat) (u0 u1 u2 : Value) : Keeps g g W (((W.setCell ⟨g, 0, none⟩ (u0)).setCell ⟨g, 1, none⟩ (u1)).setCell ⟨g, 2, none⟩ (u2)) :=
 Keeps.setCell (Keeps.setCell (Keeps.setCell (Keeps.refl g g W) ⟨g, 0, none⟩ u0 (Or.inl rfl)) ⟨g, 1, none⟩ u1 (Or.inl rfl)) ⟨g, 2, none⟩ u2 (Or.inl rfl)
theorem keepsC8 (W : World) (g : Nat) (u0 u1 u2 u3 u4 u5 u6 u7 : Value) : Keeps g g W ((((((((W.setCell ⟨g, 0, none⟩ (u0)).setCell ⟨g, 1, none⟩ (u1)).setCell ⟨g, 2, none⟩ (u2)).setCell ⟨g, 3, none⟩ (u3)).setCell ⟨g, 4, none⟩ (u4)).setCell ⟨g, 5, none⟩ (u5)).setCell ⟨g, 6, none⟩ (u6)).setCell ⟨g, 7, none⟩ (u7)) :=
 Keeps.setCell (Keeps.setCell (Keeps.setCell (Keeps.setCell (Keeps.setCell (Keeps.setCell (Keeps.setCell (Keeps.setCell (Keeps.refl g g W) ⟨g, 0, none⟩ u0 (Or.inl rfl)) ⟨g, 1, none⟩ u1 (Or.inl rfl)) ⟨g, 2, none⟩ u2 (Or.inl rfl)) ⟨g, 3, none⟩ u3 (Or.inl rfl)) ⟨g, 4, none⟩ u4 (Or.inl rfl)) ⟨g, 5, none⟩ u5 (Or.inl rfl)) ⟨g, 6, none⟩ u6 (Or.inl rfl)) ⟨g, 7, none⟩ u7 (Or.inl rfl)
theorem putS_9_6 {W : World} {a0 a1 a2 a3 a4 a5 a6 a7 a8 : Addr} {v0 v1 v2 v3 v4 v5 v6 v7 v8 : Value} (m : W.cell? a0 = some v0 ∧ W.cell? a1 = some v1 ∧ W.cell? a2 = some v2 ∧ W.cell? a3 = some v3 ∧ W.cell? a4 = some v4 ∧ W.cell? a5 = some v5 ∧ W.cell? a6 = some v6 ∧ W.cell? a7 = some v7 ∧ W.cell? a8 = some v8) (g : Nat) (h : g ≠ a0.block ∧ g ≠ a1.block ∧ g ≠ a2.block ∧ g ≠ a3.block ∧ g ≠ a4.block ∧ g ≠ a5.block ∧ g ≠ a6.block ∧ g ≠ a7.block ∧ g ≠ a8.block) (u0 u1 u2 u3 u4 u5 : Value) : ((((((W.setCell ⟨g, 0, none⟩ (u0)).setCell ⟨g, 1, none⟩ (u1)).setCell ⟨g, 2, none⟩ (u2)).setCell ⟨g, 3, none⟩ (u3)).setCell ⟨g, 4, none⟩ (u4)).setCell ⟨g, 5, none⟩ (u5)).cell? a0 = some v0 ∧ ((((((W.setCell ⟨g, 0, none⟩ (u0)).setCell ⟨g, 1, none⟩ (u1)).setCell ⟨g, 2, none⟩ (u2)).setCell ⟨g, 3, none⟩ (u3)).setCell ⟨g, 4, none⟩ (u4)).setCell ⟨g, 5, none⟩ (u5)).cell? a1 = some v1 ∧ ((((((W.setCell ⟨g, 0, none⟩ (u0)).setCell ⟨g, 1, none⟩ (u1)).setCell ⟨g, 2, none⟩ (u2)).setCell ⟨g, 3, none⟩ (u3)).setCell ⟨g, 4, none⟩ (u4)).setCell ⟨g, 5, none⟩ (u5)).cell? a2 = some v2 ∧ ((((((W.setCell ⟨g, 0, none⟩ (u0)).setCell ⟨g, 1, none⟩ (u1)).setCell ⟨g, 2, none⟩ (u2)).setCell ⟨g, 3, none⟩ (u3)).setCell ⟨g, 4, none⟩ (u4)).setCell ⟨g, 5, none⟩ (u5)).cell? a3 = some v3 ∧ ((((((W.setCell ⟨g, 0, none⟩ (u0)).setCell ⟨g, 1, none⟩ (u1)).setCell ⟨g, 2, none⟩ (u2)).setCell ⟨g, 3, none⟩ (u3)).setCell ⟨g, 4, none⟩ (u4)).setCell ⟨g, 5, none⟩ (u5)).cell? a4 = some v4 ∧ ((((((W.setCell ⟨g, 0, none⟩ (u0)).setCell ⟨g, 1, none⟩ (u1)).setCell ⟨g, 2, none⟩ (u2)).setCell ⟨g, 3, none⟩ (u3)).setCell ⟨g, 4, none⟩ (u4)).setCell ⟨g, 5, none⟩ (u5)).cell? a5 = some v5 ∧ ((((((W.setCell ⟨g, 0, none⟩ (u0)).setCell ⟨g, 1, none⟩ (u1)).setCell ⟨g, 2, none⟩ (u2)).setCell ⟨g, 3, none⟩ (u3)).setCell ⟨g, 4, none⟩ (u4)).setCell ⟨g, 5, none⟩ (u5)).cell? a6 = some v6 ∧ ((((((W.setCell ⟨g, 0, none⟩ (u0)).setCell ⟨g, 1, none⟩ (u1)).setCell ⟨g, 2, none⟩ (u2)).setCell ⟨g, 3, none⟩ (u3)).setCell ⟨g, 4, none⟩ (u4)).setCell ⟨g, 5, none⟩ (u5)).cell? a7 = some v7 ∧ ((((((W.setCell ⟨g, 0, none⟩ (u0)).setCell ⟨g, 1, none⟩ (u1)).setCell ⟨g, 2, none⟩ (u2)).setCell ⟨g, 3, none⟩ (u3)).setCell ⟨g, 4, none⟩ (u4)).setCell ⟨g, 5, none⟩ (u5)).cell? a8 = some v8 :=
 ⟨cell_farC6 g m.1 h.1 _ _ _ _ _ _, cell_farC6 g m.2.1 h.2.1 _ _ _ _ _ _, cell_farC6 g m.2.2.1 h.2.2.1 _ _ _ _ _ _, cell_farC6 g m.2.2.2.1 h.2.2.2.1 _ _ _ _ _ _, cell_farC6 g m.2.2.2.2.1 h.2.2.2.2.1 _ _ _ _ _ _, cell_farC6 g m.2.2.2.2.2.1 h.2.2.2.2.2.1 _ _ _ _ _ _, cell_farC6 g m.2.2.2.2.2.2.1 h.2.2.2.2.2.2.1 _ _ _ _ _ _, cell_farC6 g m.2.2.2.2.2.2.2.1 h.2.2.2.2.2.2.2.1 _ _ _ _ _ _, cell_farC6 g m.2.2.2.2.2.2.2.2 h.2.2.2.2.2.2.2.2 _ _ _ _ _ _⟩
theorem putS_3_8 {W : World} {a0 a1 a2 : Addr} {v0 v1 v2 : Value} (m : W.cell? a0 = some v0 ∧ W.cell? a1 = some v1 ∧ W.cell? a2 = some v2) (g : Nat) (h : g ≠ a0.block ∧ g ≠ a1.block ∧ g ≠ a2.block) (u0 u1 u2 u3 u4 u5 u6 u7 : Value) : ((((((((W.setCell ⟨g, 0, none⟩ (u0)).setCell ⟨g, 1, none⟩ (u1)).setCell ⟨g, 2, none⟩ (u2)).setCell ⟨g, 3, none⟩ (u3)).setCell ⟨g, 4, none⟩ (u4)).setCell ⟨g, 5, none⟩ (u5)).setCell ⟨g, 6, none⟩ (u6)).setCell ⟨g, 7, none⟩ (u7)).cell? a0 = some v0 ∧ ((((((((W.setCell ⟨g, 0, none⟩ (u0)).setCell ⟨g, 1, none⟩ (u1)).setCell ⟨g, 2, none⟩ (u2)).setCell ⟨g, 3, none⟩ (u3)).setCell ⟨g, 4, none⟩ (u4)).setCell ⟨g, 5, none⟩ (u5)).setCell ⟨g, 6, none⟩ (u6)).setCell ⟨g, 7, none⟩ (u7)).cell? a1 = some v1 ∧ ((((((((W.setCell ⟨g, 0, none⟩ (u0)).setCell ⟨g, 1, none⟩ (u1)).setCell ⟨g, 2, none⟩ (u2)).setCell ⟨g, 3, none⟩ (u3)).setCell ⟨g, 4, none⟩ (u4)).setCell ⟨g, 5, none⟩ (u5)).setCell ⟨g, 6, none⟩ (u6)).setCell ⟨g, 7, none⟩ (u7)).cell? a2 = some v2 :=
 ⟨cell_farC8 g m.1 h.1 _ _ _ _ _ _ _ _, cell_farC8 g m.2.1 h.2.1 _ _ _ _ _ _ _ _, cell_farC8 g m.2.2 h.2.2 _ _ _ _ _ _ _ _⟩
set_option maxRecDepth 100000 in
set_option maxHeartbeats 2000000 in
theorem l2Minus_any (z : Value) (x y : Int) (w : World) (h : IsQN 0 w z x y) :
 Calls Tryz.prog 126 #[z] w fun e w' => ∃ z', e = .returned z' ∧ IsQN 0 w' z' (-x) y ∧ Up w w' := by
 obtain ⟨a1, n1, d1, l1, c1, a2, n2, d2, l2, c2, rfl, h1, h2⟩ := h; have H1 := Hd h1; have H2 := Hd h2; clear h1 h2; obtain ⟨W0, hW0⟩ := exW ((w.alloc (.cells #[.int .i64 a1, .bool n1, .slice d1 l1 c1, .int .i64 a2, .bool n2, .slice d2 l2 c2] 70)).alloc (.cells #[.int .i64 0, .bool false, .slice none 0 0, .int .i64 0, .bool false, .slice none 0 0] 70)); have HW0 := Hd hW0; have HB0 : Hid (Up w W0) := by unfold Hid; rw [← hW0]; exact below_al (below_alloc _ _) _
 have HS0 : Hid (W0.heap.size = w.heap.size + 2) := by show W0.heap.size = _; rw [← hW0]; simp
 have hx0_0 : Bx W0 (w.heap.size) [.int .i64 a1, .bool n1, .slice d1 l1 c1, .int .i64 a2, .bool n2, .slice d2 l2 c2] := by
  rw [← hW0]; exact (bx_new w _ _).alloc _
 have hx0_1 : Bx W0 (w.heap.size + 1) [.int .i64 0, .bool false, .slice none 0 0, .int .i64 0, .bool false, .slice none 0 0] := by
  rw [← hW0]; have h := bx_new (w.alloc (.cells #[.int .i64 a1, .bool n1, .slice d1 l1 c1, .int .i64 a2, .bool n2, .slice d2 l2 c2] 70)) [.int .i64 0, .bool false, .slice none 0 0, .int .i64 0, .bool false, .slice none 0 0] 70; rw [World.size_alloc] at h; exact h
 have HX0 : Hid (∀ W, Up W0 W → Bx W (w.heap.size) [.int .i64 a1, .bool n1, .slice d1 l1 c1, .int .i64 a2, .bool n2, .slice d2 l2 c2] ∧ Bx W (w.heap.size + 1) [.int .i64 0, .bool false, .slice none 0 0, .int .i64 0, .bool false, .slice none 0 0]) := fun W hW => ⟨hx0_0.below hx0_0.lt hW, hx0_1.below hx0_1.lt hW⟩; have T1 : Hid (∀ W, Up W0 W → Calls Tryz.prog 75 #[.agg #[.int .i64 a1, .bool n1, .slice d1 l1 c1]] W (fun e w' => ∃ z, e = .returned z ∧ NumZ 0 w' z (-x) 1000 ∧ Up W w')) := fun W hW => l1MinusN_any _ x 1000 W ((H1.o.below HB0.o).below hW); obtain ⟨k0, k1, k2, k3, k4, k5⟩ := hx0_0.c6; clear hW0 hx0_0 hx0_1
 go_enter Tryz.func126, Tryz.ntmps126
 go_upto_region 1 with fail
 rw [HW0.o]
 go_wp2_with fail
 go_region_held3 (fun W => W.cell? ⟨w.heap.size, 0, none⟩ = some (.int .i64 a1) ∧ W.cell? ⟨w.heap.size, 1, none⟩ = some (.bool n1) ∧ W.cell? ⟨w.heap.size, 2, none⟩ = some (.slice d1 l1 c1) ∧ W.cell? ⟨w.heap.size, 3, none⟩ = some (.int .i64 a2) ∧ W.cell? ⟨w.heap.size, 4, none⟩ = some (.bool n2) ∧ W.cell? ⟨w.heap.size, 5, none⟩ = some (.slice d2 l2 c2)) (first
  | with_reducible assumption | with_reducible exact putS_6_6 (by with_reducible assumption) (w.heap.size + 1) (by dsimp only; omega) _ _ _ _ _ _ | go_keep) (first
  | (go_at_call 75
     refine (T1.o _ ?_).mono ?_
     ·exact (Below.refl _ W0).drew
     rintro e wm ⟨u1, rfl, hu, hb⟩; have HU := Hd hu; have HQM : Hid (Up W0 wm) := (Below.refl _ W0).drew.trans hb; obtain ⟨a5, n5, d5, l5, c5, rfl⟩ := hu.shape'; have hxa := HX0.o wm HQM.o; have hS0 := cc6 hxa.1; obtain ⟨r0, r1, r2, r3, r4, r5⟩ := hxa.2.c6; obtain ⟨rf0, rf1, rf2, rf3, rf4, rf5⟩ := hxa.2.f6; clear hu hb hxa))
 all_goals
  try simp only [List.getElem_toArray, List.getElem_cons_succ, List.getElem_cons_zero, Act.put, List.setIfInBounds_toArray, List.set_cons_succ, List.set_cons_zero]
  go_wp2
  have hbw := (HX0.o wm HQM.o).2; have hnR : NoInt wm (w.heap.size + 1) := noInt_of hbw (by simp); have HK := keepsC6 wm (w.heap.size + 1) (.int .i64 a5) (.bool n5) (.slice d5 l5 c5) (.int .i64 a2) (.bool n2) (.slice d2 l2 c2); have hD1 := HU.o.keeps hnR hnR HK; have hD2 := ((H2.o.below HB0.o).below HQM.o).keeps hnR hnR HK; have hB9 := bs6 (HB0.o.trans (HQM.o.mono HB0.o.size)) (w.heap.size + 1) (by omega) (.int .i64 a5) (.bool n5) (.slice d5 l5 c5) (.int .i64 a2) (.bool n2) (.slice d2 l2 c2); have hZ := hbw.s6 (.int .i64 a5) (.bool n5) (.slice d5 l5 c5) (.int .i64 a2) (.bool n2) (.slice d2 l2 c2); generalize (((((wm.setCell ⟨w.heap.size + 1, 0, none⟩ (.int .i64 a5)).setCell ⟨w.heap.size + 1, 1, none⟩ (.bool n5)).setCell ⟨w.heap.size + 1, 2, none⟩ (.slice d5 l5 c5)).setCell ⟨w.heap.size + 1, 3, none⟩ (.int .i64 a2)).setCell ⟨w.heap.size + 1, 4, none⟩ (.bool n2)).setCell ⟨w.heap.size + 1, 5, none⟩ (.slice d2 l2 c2) = W9 at *; obtain ⟨v0, v1, v2, v3, v4, v5⟩ := hZ.c6; refine bodyPost_ret (v := .agg #[.int .i64 a5, .bool n5, .slice d5 l5 c5, .int .i64 a2, .bool n2, .slice d2 l2 c2]) ?_ rfl ⟨_, rfl, qn_mk hD1 hD2, hB9⟩; simp [results, Tryz.results126, go_sem, v0, v1, v2, v3, v4, v5]
set_option maxRecDepth 100000 in
set_option maxHeartbeats 2000000 in
theorem l2Sign_any (z : Value) (x y : Int) (w : World) (h : IsQN 0 w z x y) :
 Calls Tryz.prog 124 #[z] w fun e w' => e = .returned (.int .i64 (ordI x 0)) ∧ Up w w' := by
 obtain ⟨a1, n1, d1, l1, c1, a2, n2, d2, l2, c2, rfl, h1, h2⟩ := h; have H1 := Hd h1; clear h1 h2; obtain ⟨W0, hW0⟩ := exW (w.alloc (.cells #[.int .i64 a1, .bool n1, .slice d1 l1 c1, .int .i64 a2, .bool n2, .slice d2 l2 c2] 70)); have HW0 := Hd hW0; have HB0 : Hid (Up w W0) := by unfold Hid; rw [← hW0]; exact below_alloc _ _
 have HS0 : Hid (W0.heap.size = w.heap.size + 1) := by show W0.heap.size = _; rw [← hW0]; simp
 have hx0_0 : Bx W0 (w.heap.size) [.int .i64 a1, .bool n1, .slice d1 l1 c1, .int .i64 a2, .bool n2, .slice d2 l2 c2] := by
  rw [← hW0]; exact bx_new w _ _
 have HX0 : Hid (∀ W, Up W0 W → Bx W (w.heap.size) [.int .i64 a1, .bool n1, .slice d1 l1 c1, .int .i64 a2, .bool n2, .slice d2 l2 c2]) := fun W hW => hx0_0.below hx0_0.lt hW; obtain ⟨k0, k1, k2, k3, k4, k5⟩ := hx0_0.c6; clear hW0 hx0_0
 go_enter Tryz.func124, Tryz.ntmps124
 go_upto_region 1 with fail
 rw [HW0.o]
 go_wp2_with fail
 refine (l1Sign_any 0 _ x 1000 _ (Nat.zero_le _) (H1.o.below HB0.o)).mono ?_; rintro e w1 ⟨rfl, hb1⟩; have HE := Hd (HB0.o.trans (hb1.mono HB0.o.size)); clear hb1
 go_wp2
 go_ret
 exact ⟨rfl, HE.o⟩
set_option maxRecDepth 100000 in
set_option maxHeartbeats 2000000 in
theorem l2IntZ_any (w : World) :
 Calls Tryz.prog 123 #[.int .i64 0] w fun e w' => ∃ z, e = .returned z ∧ IsQN 0 w' z 0 1 ∧ Up w w' := by
 obtain ⟨W0, hW0⟩ := exW (w.alloc (.cells #[.int .i64 0, .bool false, .slice none 0 0, .int .i64 0, .bool false, .slice none 0 0] 70)); have HW0 := Hd hW0; have HB0 : Hid (Up w W0) := by unfold Hid; rw [← hW0]; exact below_alloc _ _
 have HS0 : Hid (W0.heap.size = w.heap.size + 1) := by show W0.heap.size = _; rw [← hW0]; simp
 have hx0_0 : Bx W0 (w.heap.size) [.int .i64 0, .bool false, .slice none 0 0, .int .i64 0, .bool false, .slice none 0 0] := by
  rw [← hW0]; exact bx_new w _ _
 have HX0 : Hid (∀ W, Up W0 W → Bx W (w.heap.size) [.int .i64 0, .bool false, .slice none 0 0, .int .i64 0, .bool false, .slice none 0 0]) := fun W hW => hx0_0.below hx0_0.lt hW; clear hW0 hx0_0
 go_enter Tryz.func123, Tryz.ntmps123
 go_upto_region 1 with fail
 rw [HW0.o]
 go_wp2_with fail
 refine (l1Small_any 0 _ (by decide) (by decide)).mono ?_; rintro e w1 ⟨z1, rfl, hz1, hb1⟩; obtain ⟨a1, n1, d1, l1, c1, rfl⟩ := hz1.shape'; have HZ1 := Hd (hz1.mono' (B' := 0) (n' := 1000) (Nat.zero_le _) (by decide)); have HC1 := Hd hb1; clear hz1 hb1
 go_wp2_with fail
 refine (l1Small_any 1 _ (by decide) (by decide)).mono ?_; rintro e w2 ⟨z2, rfl, hz2, hb2⟩; obtain ⟨a2, n2, d2, l2, c2, rfl⟩ := hz2.shape'; have HZ2 := Hd (hz2.mono' (B' := 0) (n' := 1000) (Nat.zero_le _) (by decide)); have HZ3 := Hd (HZ1.o.below hb2); have HC2 : Hid (Up W0 w2) := HC1.o.trans (hb2.mono HC1.o.size); clear hz2 hb2; have hbr := HX0.o w2 HC2.o; obtain ⟨r0, r1, r2, r3, r4, r5⟩ := hbr.c6; obtain ⟨rf0, rf1, rf2, rf3, rf4, rf5⟩ := hbr.f6; clear hbr
 go_wp2
 have hbw := HX0.o w2 HC2.o; have hnR : NoInt w2 (w.heap.size) := noInt_of hbw (by simp); have HK := keepsC6 w2 (w.heap.size) (.int .i64 a1) (.bool n1) (.slice d1 l1 c1) (.int .i64 a2) (.bool n2) (.slice d2 l2 c2); have hD1 := HZ3.o.keeps hnR hnR HK; have hD2 := HZ2.o.keeps hnR hnR HK; have hB9 := bs6 (HB0.o.trans (HC2.o.mono HB0.o.size)) w.heap.size (by omega) (.int .i64 a1) (.bool n1) (.slice d1 l1 c1) (.int .i64 a2) (.bool n2) (.slice d2 l2 c2); have hZ := hbw.s6 (.int .i64 a1) (.bool n1) (.slice d1 l1 c1) (.int .i64 a2) (.bool n2) (.slice d2 l2 c2); generalize (((((w2.setCell ⟨w.heap.size, 0, none⟩ (.int .i64 a1)).setCell ⟨w.heap.size, 1, none⟩ (.bool n1)).setCell ⟨w.heap.size, 2, none⟩ (.slice d1 l1 c1)).setCell ⟨w.heap.size, 3, none⟩ (.int .i64 a2)).setCell ⟨w.heap.size, 4, none⟩ (.bool n2)).setCell ⟨w.heap.size, 5, none⟩ (.slice d2 l2 c2) = W9 at *; obtain ⟨v0, v1, v2, v3, v4, v5⟩ := hZ.c6; refine bodyPost_ret (v := .agg #[.int .i64 a1, .bool n1, .slice d1 l1 c1, .int .i64 a2, .bool n2, .slice d2 l2 c2]) ?_ rfl ⟨_, rfl, qn_mk hD1 hD2, hB9⟩; simp [results, Tryz.results123, go_sem, v0, v1, v2, v3, v4, v5]
set_option maxRecDepth 100000 in
set_option maxHeartbeats 4000000 in
theorem l2Turn_any (z zf : Value) (x y f : Int) (w : World) (h : IsQN 0 w z x y) (hf : NumZ 0 w zf f 1000) (hlt : (x - f * y).natAbs < lb 1000) :
 Calls Tryz.prog 158 #[z, zf] w fun e w' => ∃ z', e = .returned z' ∧ IsQN 0 w' z' y (x - f * y) ∧ Up w w' := by
 obtain ⟨a1, n1, d1, l1, c1, a2, n2, d2, l2, c2, rfl, h1, h2⟩ := h; obtain ⟨a3, n3, d3, l3, c3, rfl⟩ := hf.shape'; have H1 := Hd h1; have H2 := Hd h2; have HF := Hd hf; have HLT := Hd hlt; clear h1 h2 hf hlt; obtain ⟨W0, hW0⟩ := exW (((w.alloc (.cells #[.int .i64 a1, .bool n1, .slice d1 l1 c1, .int .i64 a2, .bool n2, .slice d2 l2 c2] 70)).alloc (.cells #[.int .i64 a3, .bool n3, .slice d3 l3 c3] 54)).alloc (.cells #[.int .i64 0, .bool false, .slice none 0 0, .int .i64 0, .bool false, .slice none 0 0] 70)); have HW0 := Hd hW0; have HB0 : Hid (Up w W0) := by unfold Hid; rw [← hW0]; exact below_al (below_al (below_alloc _ _) _) _
 have HS0 : Hid (W0.heap.size = w.heap.size + 3) := by show W0.heap.size = _; rw [← hW0]; simp
 have hx0_0 : Bx W0 (w.heap.size) [.int .i64 a1, .bool n1, .slice d1 l1 c1, .int .i64 a2, .bool n2, .slice d2 l2 c2] := by
  rw [← hW0]; exact ((bx_new w _ _).alloc _).alloc _
 have hx0_1 : Bx W0 (w.heap.size + 1) [.int .i64 a3, .bool n3, .slice d3 l3 c3] := by
  rw [← hW0]; have h := bx_new (w.alloc (.cells #[.int .i64 a1, .bool n1, .slice d1 l1 c1, .int .i64 a2, .bool n2, .slice d2 l2 c2] 70)) [.int .i64 a3, .bool n3, .slice d3 l3 c3] 54; rw [World.size_alloc] at h; exact (h).alloc _
 have hx0_2 : Bx W0 (w.heap.size + 1 + 1) [.int .i64 0, .bool false, .slice none 0 0, .int .i64 0, .bool false, .slice none 0 0] := by
  rw [← hW0]; have h := bx_new ((w.alloc (.cells #[.int .i64 a1, .bool n1, .slice d1 l1 c1, .int .i64 a2, .bool n2, .slice d2 l2 c2] 70)).alloc (.cells #[.int .i64 a3, .bool n3, .slice d3 l3 c3] 54)) [.int .i64 0, .bool false, .slice none 0 0, .int .i64 0, .bool false, .slice none 0 0] 70; rw [World.size_alloc, World.size_alloc] at h; exact h
 have HX0 : Hid (∀ W, Up W0 W → Bx W (w.heap.size) [.int .i64 a1, .bool n1, .slice d1 l1 c1, .int .i64 a2, .bool n2, .slice d2 l2 c2] ∧ Bx W (w.heap.size + 1) [.int .i64 a3, .bool n3, .slice d3 l3 c3] ∧ Bx W (w.heap.size + 1 + 1) [.int .i64 0, .bool false, .slice none 0 0, .int .i64 0, .bool false, .slice none 0 0]) := fun W hW => ⟨hx0_0.below hx0_0.lt hW, hx0_1.below hx0_1.lt hW, hx0_2.below hx0_2.lt hW⟩; have T1 : Hid (∀ W, Up W0 W → Calls Tryz.prog 49 #[.agg #[.int .i64 a3, .bool n3, .slice d3 l3 c3], .agg #[.int .i64 a2, .bool n2, .slice d2 l2 c2]] W (fun e w' => ∃ z, e = .returned z ∧ NumZ 0 w' z (f * y) 2000 ∧ Up W w')) := fun W hW => by
  refine (l1MulN_any 0 _ _ f y 1000 1000 W (Nat.zero_le _) ((HF.o.below HB0.o).below hW) ((H2.o.below HB0.o).below hW) (by omega) (by omega)).mono ?_; rintro e w' ⟨z, rfl, hz, hb⟩; refine ⟨z, rfl, numZ_lt hz ?_, hb⟩; rw [Int.natAbs_mul]; exact lb_mul 1000 1000 (numZ_val HF.o) (numZ_val H2.o)
 have T2 : Hid (∀ W zp, Up W0 W → NumZ 0 W zp (f * y) 2000 → Calls Tryz.prog 105 #[.agg #[.int .i64 a1, .bool n1, .slice d1 l1 c1], zp] W (fun e w' => ∃ z, e = .returned z ∧ NumZ 0 w' z (x - f * y) 1000 ∧ Up W w')) := fun W zp hW hz => by
  refine (l1SubN_any _ _ x (f * y) 1000 2000 W ((H1.o.below HB0.o).below hW) hz (by omega) (by omega)).mono ?_; rintro e w' ⟨z, rfl, hz, hb⟩; exact ⟨z, rfl, numZ_lt hz HLT.o, hb⟩
 obtain ⟨k0, k1, k2, k3, k4, k5⟩ := hx0_0.c6; obtain ⟨j0, j1, j2⟩ := hx0_1.c3; clear hW0 hx0_0 hx0_1 hx0_2
 go_enter Tryz.func158, Tryz.ntmps158
 go_upto_region 1 with fail
 rw [HW0.o]
 go_wp2_with fail
 go_region_held3 (fun W => W.cell? ⟨w.heap.size, 0, none⟩ = some (.int .i64 a1) ∧ W.cell? ⟨w.heap.size, 1, none⟩ = some (.bool n1) ∧ W.cell? ⟨w.heap.size, 2, none⟩ = some (.slice d1 l1 c1) ∧ W.cell? ⟨w.heap.size, 3, none⟩ = some (.int .i64 a2) ∧ W.cell? ⟨w.heap.size, 4, none⟩ = some (.bool n2) ∧ W.cell? ⟨w.heap.size, 5, none⟩ = some (.slice d2 l2 c2) ∧ W.cell? ⟨w.heap.size + 1, 0, none⟩ = some (.int .i64 a3) ∧ W.cell? ⟨w.heap.size + 1, 1, none⟩ = some (.bool n3) ∧ W.cell? ⟨w.heap.size + 1, 2, none⟩ = some (.slice d3 l3 c3)) (first
  | with_reducible assumption | with_reducible exact putS_9_6 (by with_reducible assumption) (w.heap.size + 1 + 1) (by dsimp only; omega) _ _ _ _ _ _ | go_keep) (first
  | (go_at_call 49
     refine (T1.o _ ?_).mono ?_
     ·exact (Below.refl _ W0).drew
     rintro e wt1 ⟨u1, rfl, hu, hb⟩; have HU1 := Hd hu; have HQ1 : Hid (Up W0 wt1) := (Below.refl _ W0).drew.trans hb; have hxa := HX0.o wt1 HQ1.o; have hSwt1 := cc6_3 hxa.1 hxa.2.1; clear hxa; clear hu hb)
  | (go_at_call 105
     refine (T2.o _ _ HQ1.o HU1.o).mono ?_; rintro e wm ⟨u2, rfl, hu, hb⟩; have HU2 := Hd hu; have HQM : Hid (Up W0 wm) := HQ1.o.trans (hb.mono HQ1.o.size); obtain ⟨a5, n5, d5, l5, c5, rfl⟩ := hu.shape'; have hxa := HX0.o wm HQM.o; have hSwm := cc6_3 hxa.1 hxa.2.1; clear hxa; have hxr := (HX0.o wm HQM.o).2.2; obtain ⟨r0, r1, r2, r3, r4, r5⟩ := hxr.c6; obtain ⟨rf0, rf1, rf2, rf3, rf4, rf5⟩ := hxr.f6; clear hu hb hxr))
 all_goals
  try simp only [List.getElem_toArray, List.getElem_cons_succ, List.getElem_cons_zero, Act.put, List.setIfInBounds_toArray, List.set_cons_succ, List.set_cons_zero]
  go_wp2
  have hbw := (HX0.o wm HQM.o).2.2; have hnR : NoInt wm (w.heap.size + 1 + 1) := noInt_of hbw (by simp); have HK := keepsC6 wm (w.heap.size + 1 + 1) (.int .i64 a2) (.bool n2) (.slice d2 l2 c2) (.int .i64 a5) (.bool n5) (.slice d5 l5 c5); have hD1 := ((H2.o.below HB0.o).below HQM.o).keeps hnR hnR HK; have hD2 := HU2.o.keeps hnR hnR HK; have hB9 := bs6 (HB0.o.trans (HQM.o.mono HB0.o.size)) (w.heap.size + 1 + 1) (by omega) (.int .i64 a2) (.bool n2) (.slice d2 l2 c2) (.int .i64 a5) (.bool n5) (.slice d5 l5 c5); have hZ := hbw.s6 (.int .i64 a2) (.bool n2) (.slice d2 l2 c2) (.int .i64 a5) (.bool n5) (.slice d5 l5 c5); generalize (((((wm.setCell ⟨w.heap.size + 1 + 1, 0, none⟩ (.int .i64 a2)).setCell ⟨w.heap.size + 1 + 1, 1, none⟩ (.bool n2)).setCell ⟨w.heap.size + 1 + 1, 2, none⟩ (.slice d2 l2 c2)).setCell ⟨w.heap.size + 1 + 1, 3, none⟩ (.int .i64 a5)).setCell ⟨w.heap.size + 1 + 1, 4, none⟩ (.bool n5)).setCell ⟨w.heap.size + 1 + 1, 5, none⟩ (.slice d5 l5 c5) = W9 at *; obtain ⟨v0, v1, v2, v3, v4, v5⟩ := hZ.c6; refine bodyPost_ret (v := .agg #[.int .i64 a2, .bool n2, .slice d2 l2 c2, .int .i64 a5, .bool n5, .slice d5 l5 c5]) ?_ rfl ⟨_, rfl, qn_mk hD1 hD2, hB9⟩; simp [results, Tryz.results158, go_sem, v0, v1, v2, v3, v4, v5]
set_option maxRecDepth 100000 in
set_option maxHeartbeats 2000000 in
theorem l2EndOf_any (h o : Bool) (t : ByteArray) (k : Option Nat) (x y : Int) (w : World) (ht : t.size ≤ maxLen) (hk : IsCut t k) (hV : h = true → RatV t k x y) (hN : h = false → x = 0 ∧ y = 1) :
 Calls Tryz.prog 71 #[.agg #[.bool h, .bool o, .string t]] w fun e w' => ∃ z, e = .returned z ∧ IsES w' z h (h && o) x y ∧ Up w w' := by
 have HK := Hd hk; have HV := Hd hV; have HN := Hd hN; clear hk hV hN; obtain ⟨W0, hW0⟩ := exW ((w.alloc (.cells #[.bool h, .bool o, .string t] 31)).alloc (.cells #[.bool false, .bool false, .int .i64 0, .bool false, .slice none 0 0, .int .i64 0, .bool false, .slice none 0 0] 88)); have HW0 := Hd hW0; have HB0 : Hid (Up w W0) := by unfold Hid; rw [← hW0]; exact below_al (below_alloc _ _) _
 have HS0 : Hid (W0.heap.size = w.heap.size + 2) := by show W0.heap.size = _; rw [← hW0]; simp
 have hx0_0 : Bx W0 (w.heap.size) [.bool h, .bool o, .string t] := by
  rw [← hW0]; exact (bx_new w _ _).alloc _
 have hx0_1 : Bx W0 (w.heap.size + 1) [.bool false, .bool false, .int .i64 0, .bool false, .slice none 0 0, .int .i64 0, .bool false, .slice none 0 0] := by
  rw [← hW0]; have h := bx_new (w.alloc (.cells #[.bool h, .bool o, .string t] 31)) [.bool false, .bool false, .int .i64 0, .bool false, .slice none 0 0, .int .i64 0, .bool false, .slice none 0 0] 88; rw [World.size_alloc] at h; exact h
 have HX0 : Hid (∀ W, Up W0 W → Bx W (w.heap.size) [.bool h, .bool o, .string t] ∧ Bx W (w.heap.size + 1) [.bool false, .bool false, .int .i64 0, .bool false, .slice none 0 0, .int .i64 0, .bool false, .slice none 0 0]) := fun W hW => ⟨hx0_0.below hx0_0.lt hW, hx0_1.below hx0_1.lt hW⟩; obtain ⟨k0, k1, k2⟩ := hx0_0.c3; clear hW0 hx0_0 hx0_1; cases h
 ·obtain ⟨rfl, rfl⟩ := HN.o rfl
  go_enter Tryz.func71, Tryz.ntmps71
  go_upto_region 1 with fail
  rw [HW0.o]
  go_wp2_with fail
  refine (l2IntZ_any _).mono ?_; rintro e w1 ⟨z, rfl, hz, hb1⟩; obtain ⟨a1, n1, d1, l1, c1, a2, n2, d2, l2, c2, rfl, h1, h2⟩ := hz; have H1 := Hd h1; have H2 := Hd h2; have HC1 := Hd hb1; have hbr := (HX0.o w1 hb1).2; obtain ⟨r0, r1, r2, r3, r4, r5, r6, r7⟩ := hbr.c8; obtain ⟨rf0, rf1, rf2, rf3, rf4, rf5, rf6, rf7⟩ := hbr.f8; clear h1 h2 hb1 hbr
  go_wp2
  have hbw := (HX0.o w1 HC1.o).2; have hnR : NoInt w1 (w.heap.size + 1) := noInt_of hbw (by simp); have HKK := keepsC8 w1 (w.heap.size + 1) (.bool false) (.bool false) (.int .i64 a1) (.bool n1) (.slice d1 l1 c1) (.int .i64 a2) (.bool n2) (.slice d2 l2 c2); have hD1 := H1.o.keeps hnR hnR HKK; have hD2 := H2.o.keeps hnR hnR HKK; have hB9 := bs8 (HB0.o.trans (HC1.o.mono HB0.o.size)) (w.heap.size + 1) (by omega) (.bool false) (.bool false) (.int .i64 a1) (.bool n1) (.slice d1 l1 c1) (.int .i64 a2) (.bool n2) (.slice d2 l2 c2); have hZ := hbw.s8 (.bool false) (.bool false) (.int .i64 a1) (.bool n1) (.slice d1 l1 c1) (.int .i64 a2) (.bool n2) (.slice d2 l2 c2); generalize (((((((w1.setCell ⟨w.heap.size + 1, 0, none⟩ (.bool false)).setCell ⟨w.heap.size + 1, 1, none⟩ (.bool false)).setCell ⟨w.heap.size + 1, 2, none⟩ (.int .i64 a1)).setCell ⟨w.heap.size + 1, 3, none⟩ (.bool n1)).setCell ⟨w.heap.size + 1, 4, none⟩ (.slice d1 l1 c1)).setCell ⟨w.heap.size + 1, 5, none⟩ (.int .i64 a2)).setCell ⟨w.heap.size + 1, 6, none⟩ (.bool n2)).setCell ⟨w.heap.size + 1, 7, none⟩ (.slice d2 l2 c2) = W9 at *; obtain ⟨v0, v1, v2, v3, v4, v5, v6, v7⟩ := hZ.c8; refine bodyPost_ret (v := .agg #[.bool false, .bool false, .int .i64 a1, .bool n1, .slice d1 l1 c1, .int .i64 a2, .bool n2, .slice d2 l2 c2]) ?_ rfl ⟨_, rfl, ⟨_, _, _, _, _, _, _, _, _, _, rfl, hD1, hD2⟩, hB9⟩; simp [results, Tryz.results71, go_sem, v0, v1, v2, v3, v4, v5, v6, v7]
 go_enter Tryz.func71, Tryz.ntmps71
 go_upto_region 1 with fail
 rw [HW0.o]
 go_wp2_with fail
 go_region_held3 (fun W => W.cell? ⟨w.heap.size, 0, none⟩ = some (.bool true) ∧ W.cell? ⟨w.heap.size, 1, none⟩ = some (.bool o) ∧ W.cell? ⟨w.heap.size, 2, none⟩ = some (.string t)) (first
  | with_reducible assumption | with_reducible exact putS_3_8 (by with_reducible assumption) (w.heap.size + 1) (by dsimp only; omega) _ _ _ _ _ _ _ _ | go_keep) (first
  | (go_at_call 60
     refine (l2Read_any t k x y _ ht HK.o (HV.o (by first | rfl | trivial))).mono ?_; rintro e wm ⟨z, rfl, hz, hb⟩; have hz := qn_zero hz; obtain ⟨a1, n1, d1, l1, c1, a2, n2, d2, l2, c2, rfl, h1, h2⟩ := hz; have H1 := Hd h1; have H2 := Hd h2; have HQM : Hid (Up W0 wm) := (Below.refl _ W0).drew.trans hb; have hxa := HX0.o wm HQM.o; have hS0 := cc3 hxa.1; have hxr := hxa.2; obtain ⟨r0, r1, r2, r3, r4, r5, r6, r7⟩ := hxr.c8; obtain ⟨rf0, rf1, rf2, rf3, rf4, rf5, rf6, rf7⟩ := hxr.f8; clear h1 h2 hb hxa hxr))
 all_goals
  try simp only [List.getElem_toArray, List.getElem_cons_succ, List.getElem_cons_zero, Act.put, List.setIfInBounds_toArray, List.set_cons_succ, List.set_cons_zero]
  go_wp2
  have hbw := (HX0.o wm HQM.o).2; have hnR : NoInt wm (w.heap.size + 1) := noInt_of hbw (by simp); have HKK := keepsC8 wm (w.heap.size + 1) (.bool true) (.bool o) (.int .i64 a1) (.bool n1) (.slice d1 l1 c1) (.int .i64 a2) (.bool n2) (.slice d2 l2 c2); have hD1 := H1.o.keeps hnR hnR HKK; have hD2 := H2.o.keeps hnR hnR HKK; have hB9 := bs8 (HB0.o.trans (HQM.o.mono HB0.o.size)) (w.heap.size + 1) (by omega) (.bool true) (.bool o) (.int .i64 a1) (.bool n1) (.slice d1 l1 c1) (.int .i64 a2) (.bool n2) (.slice d2 l2 c2); have hZ := hbw.s8 (.bool true) (.bool o) (.int .i64 a1) (.bool n1) (.slice d1 l1 c1) (.int .i64 a2) (.bool n2) (.slice d2 l2 c2); generalize (((((((wm.setCell ⟨w.heap.size + 1, 0, none⟩ (.bool true)).setCell ⟨w.heap.size + 1, 1, none⟩ (.bool o)).setCell ⟨w.heap.size + 1, 2, none⟩ (.int .i64 a1)).setCell ⟨w.heap.size + 1, 3, none⟩ (.bool n1)).setCell ⟨w.heap.size + 1, 4, none⟩ (.slice d1 l1 c1)).setCell ⟨w.heap.size + 1, 5, none⟩ (.int .i64 a2)).setCell ⟨w.heap.size + 1, 6, none⟩ (.bool n2)).setCell ⟨w.heap.size + 1, 7, none⟩ (.slice d2 l2 c2) = W9 at *; obtain ⟨v0, v1, v2, v3, v4, v5, v6, v7⟩ := hZ.c8; refine bodyPost_ret (v := .agg #[.bool true, .bool o, .int .i64 a1, .bool n1, .slice d1 l1 c1, .int .i64 a2, .bool n2, .slice d2 l2 c2]) ?_ rfl ⟨_, rfl, ⟨_, _, _, _, _, _, _, _, _, _, rfl, hD1, hD2⟩, hB9⟩; simp [results, Tryz.results71, go_sem, v0, v1, v2, v3, v4, v5, v6, v7]
set_option maxRecDepth 100000 in
set_option maxHeartbeats 2000000 in
theorem l2Empty_any (zl zh : Value) (h1 o1 : Bool) (x1 y1 : Int) (h2 o2 : Bool) (x2 y2 : Int) (w : World) (hl : IsES w zl h1 o1 x1 y1) (hh : IsES w zh h2 o2 x2 y2) :
 Calls Tryz.prog 72 #[zl, zh] w fun e w' => e = .returned (.bool (NoneB h1 o1 x1 y1 h2 o2 x2 y2)) ∧ Up w w' := by
 obtain ⟨a1, n1, d1, l1, c1, a2, n2, d2, l2, c2, rfl, i1, i2⟩ := hl; obtain ⟨a3, n3, d3, l3, c3, a4, n4, d4, l4, c4, rfl, i3, i4⟩ := hh; have H1 := Hd i1; have H2 := Hd i2; have H3 := Hd i3; have H4 := Hd i4; clear i1 i2 i3 i4; obtain ⟨W0, hW0⟩ := exW ((w.alloc (.cells #[.bool h1, .bool o1, .int .i64 a1, .bool n1, .slice d1 l1 c1, .int .i64 a2, .bool n2, .slice d2 l2 c2] 88)).alloc (.cells #[.bool h2, .bool o2, .int .i64 a3, .bool n3, .slice d3 l3 c3, .int .i64 a4, .bool n4, .slice d4 l4 c4] 88)); have HW0 := Hd hW0; have HB0 : Hid (Up w W0) := by unfold Hid; rw [← hW0]; exact below_al (below_alloc _ _) _
 have HS0 : Hid (W0.heap.size = w.heap.size + 2) := by show W0.heap.size = _; rw [← hW0]; simp
 have hx0_0 : Bx W0 (w.heap.size) [.bool h1, .bool o1, .int .i64 a1, .bool n1, .slice d1 l1 c1, .int .i64 a2, .bool n2, .slice d2 l2 c2] := by
  rw [← hW0]; exact (bx_new w _ _).alloc _
 have hx0_1 : Bx W0 (w.heap.size + 1) [.bool h2, .bool o2, .int .i64 a3, .bool n3, .slice d3 l3 c3, .int .i64 a4, .bool n4, .slice d4 l4 c4] := by
  rw [← hW0]; have h := bx_new (w.alloc (.cells #[.bool h1, .bool o1, .int .i64 a1, .bool n1, .slice d1 l1 c1, .int .i64 a2, .bool n2, .slice d2 l2 c2] 88)) [.bool h2, .bool o2, .int .i64 a3, .bool n3, .slice d3 l3 c3, .int .i64 a4, .bool n4, .slice d4 l4 c4] 88; rw [World.size_alloc] at h; exact h
 have HX0 : Hid (∀ W, Up W0 W → Bx W (w.heap.size) [.bool h1, .bool o1, .int .i64 a1, .bool n1, .slice d1 l1 c1, .int .i64 a2, .bool n2, .slice d2 l2 c2] ∧ Bx W (w.heap.size + 1) [.bool h2, .bool o2, .int .i64 a3, .bool n3, .slice d3 l3 c3, .int .i64 a4, .bool n4, .slice d4 l4 c4]) := fun W hW => ⟨hx0_0.below hx0_0.lt hW, hx0_1.below hx0_1.lt hW⟩; obtain ⟨k0, k1, k2, k3, k4, k5, k6, k7⟩ := hx0_0.c8; obtain ⟨j0, j1, j2, j3, j4, j5, j6, j7⟩ := hx0_1.c8; clear hW0 hx0_0 hx0_1; cases h1
 ·go_enter Tryz.func72, Tryz.ntmps72
  go_upto_region 1 with fail
  rw [HW0.o]
  go_wp2
  go_ret
  exact ⟨rfl, HB0.o⟩
 cases h2
 ·go_enter Tryz.func72, Tryz.ntmps72
  go_upto_region 1 with fail
  rw [HW0.o]
  go_wp2
  go_ret
  exact ⟨rfl, HB0.o⟩
 go_enter Tryz.func72, Tryz.ntmps72
 go_upto_region 1 with fail
 rw [HW0.o]
 go_wp2_with fail
 refine (l2Cmp_any 0 _ _ x1 y1 x2 y2 _ (Nat.zero_le _) (qn_mk (H1.o.below HB0.o) (H2.o.below HB0.o)) (qn_mk (H3.o.below HB0.o) (H4.o.below HB0.o))).mono ?_; rintro e wa ⟨rfl, hb1⟩; have HB1 : Hid (Up w wa) := HB0.o.trans (hb1.mono HB0.o.size); have hxa := HX0.o wa hb1; have hxa0 := hxa.1; have hxa1 := hxa.2; have m1 := hxa0.cell 1; have q1 := hxa1.cell 1; simp only [List.getElem?_cons_zero, List.getElem?_cons_succ] at m1 q1; have HO : Hid (NoneB true o1 x1 y1 true o2 x2 y2 = (decide (0 < ordI (x1 * y2) (x2 * y1)) || (decide (ordI (x1 * y2) (x2 * y1) = 0) && (o1 || o2)))) := none_ord o1 o2 x1 y1 x2 y2; have h3 := ordI_three (x1 * y2) (x2 * y1); clear hb1 hxa hxa0 hxa1 k0 j0 k1 j1 k2 j2 k3 j3 k4 j4 k5 j5 k6 j6 k7 j7; obtain ⟨r, hr⟩ := exW (ordI (x1 * y2) (x2 * y1)); rw [hr] at h3 HO ⊢; clear hr
 rcases h3 with rfl | rfl | rfl
 ·go_wp2
  go_ret
  exact ⟨ret_bool (by rw [HO.o]; rfl), HB1.o⟩
 ·cases o1 <;> cases o2
  all_goals
   go_wp2
   go_ret
   exact ⟨ret_bool (by rw [HO.o]; rfl), HB1.o⟩
 go_wp2
 go_ret
 exact ⟨ret_bool (by rw [HO.o]; rfl), HB1.o⟩
end Go.Proofs.YtfmpapcfhoomkaaGreatDoor
