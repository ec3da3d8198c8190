import Derived.Test.YtfmpapcfhoomkaaGreatDoorSimOnep
import Derived.Deep.QuietTactic
import Derived.BigQuiet
import Derived.Test.YtfmpapcfhoomkaaGreatDoorK2p
namespace Go.Proofs.YtfmpapcfhoomkaaGreatDoor
open Go.ChangeShapes Go.WideShapes Go.ChangeAt Go.RowKit
theorem ym_undef (f : Bool → Option Bool) (g : Option Value → Option Bool) : Go.yielded.match_1 (fun _ => Option Bool) (some undef) f g = g (some undef) := rfl
attribute [local go_sem ↓] ym_undef
theorem numZ_nil (w : World) : NumZ 0 w (.agg #[.int .i64 0, .bool false, .slice none 0 0]) 0 1000 :=
 ⟨false, [], ⟨(by intro x hx; cases hx), trimL_trim [], .inr ⟨Nat.zero_le _, rfl⟩⟩, rfl, Nat.zero_le _⟩
theorem simN_pos {lo : Bool} {a b : Int} {has ho : Bool} {c d : Int} (h : Ends lo a b has ho c d) : 0 < simN lo a b ∧ simN lo a b ≤ a + 1 := by
 have ha := h.a0; have hb := h.b0; unfold simN
 split
 ·rename_i h1
  rcases h.pos with h2 | h2
  ·omega
  rw [h1.2] at h2; cases h2
 have h1 := Int.ediv_nonneg ha (Int.le_of_lt hb); have h2 : a / b ≤ a := Int.ediv_le_self b ha; omega
theorem ord_simH {ho : Bool} {c d n : Int} : (decide (ordI (n * d) (c * 1) < 0) || (decide (ordI (n * d) (c * 1) = 0) && !ho)) = true ↔ simH ho c d n := by
 have h := @adm_hi true ho c d n; unfold admB at h
 simpa using h
theorem putS_3_3 {W : World} {a0 a1 a2 : Addr} {v0 v1 v2 : Value} (m : W.cell? a0 = some v0 ∧ W.cell? a1 = some v1 ∧ W.cell? a2 = some v2) (g : Nat) (h : g ≠ a0.block ∧ g ≠ a1.block ∧ g ≠ a2.block) (u0 u1 u2 : Value) : (((W.setCell ⟨g, 0, none⟩ (u0)).setCell ⟨g, 1, none⟩ (u1)).setCell ⟨g, 2, none⟩ (u2)).cell? a0 = some v0 ∧ (((W.setCell ⟨g, 0, none⟩ (u0)).setCell ⟨g, 1, none⟩ (u1)).setCell ⟨g, 2, none⟩ (u2)).cell? a1 = some v1 ∧ (((W.setCell ⟨g, 0, none⟩ (u0)).setCell ⟨g, 1, none⟩ (u1)).setCell ⟨g, 2, none⟩ (u2)).cell? a2 = some v2 :=
 ⟨cell_farC3 g m.1 h.1 _ _ _, cell_farC3 g m.2.1 h.2.1 _ _ _, cell_farC3 g m.2.2 h.2.2 _ _ _⟩
theorem putS_11_8 {W : World} {a0 a1 a2 a3 a4 a5 a6 a7 a8 a9 a10 : Addr} {v0 v1 v2 v3 v4 v5 v6 v7 v8 v9 v10 : Value} (m : W.cell? a0 = some v0 ∧ W.cell? a1 = some v1 ∧ W.cell? a2 = some v2 ∧ W.cell? a3 = some v3 ∧ W.cell? a4 = some v4 ∧ W.cell? a5 = some v5 ∧ W.cell? a6 = some v6 ∧ W.cell? a7 = some v7 ∧ W.cell? a8 = some v8 ∧ W.cell? a9 = some v9 ∧ W.cell? a10 = some v10) (g : Nat) (h : g ≠ a0.block ∧ g ≠ a1.block ∧ g ≠ a2.block ∧ g ≠ a3.block ∧ g ≠ a4.block ∧ g ≠ a5.block ∧ g ≠ a6.block ∧ g ≠ a7.block ∧ g ≠ a8.block ∧ g ≠ a9.block ∧ g ≠ a10.block) (u0 u1 u2 u3 u4 u5 u6 u7 : Value) : ((((((((W.setCell ⟨g, 0, none⟩ (u0)).setCell ⟨g, 1, none⟩ (u1)).setCell ⟨g, 2, none⟩ (u2)).setCell ⟨g, 3, none⟩ (u3)).setCell ⟨g, 4, none⟩ (u4)).setCell ⟨g, 5, none⟩ (u5)).setCell ⟨g, 6, none⟩ (u6)).setCell ⟨g, 7, none⟩ (u7)).cell? a0 = some v0 ∧ ((((((((W.setCell ⟨g, 0, none⟩ (u0)).setCell ⟨g, 1, none⟩ (u1)).setCell ⟨g, 2, none⟩ (u2)).setCell ⟨g, 3, none⟩ (u3)).setCell ⟨g, 4, none⟩ (u4)).setCell ⟨g, 5, none⟩ (u5)).setCell ⟨g, 6, none⟩ (u6)).setCell ⟨g, 7, none⟩ (u7)).cell? a1 = some v1 ∧ ((((((((W.setCell ⟨g, 0, none⟩ (u0)).setCell ⟨g, 1, none⟩ (u1)).setCell ⟨g, 2, none⟩ (u2)).setCell ⟨g, 3, none⟩ (u3)).setCell ⟨g, 4, none⟩ (u4)).setCell ⟨g, 5, none⟩ (u5)).setCell ⟨g, 6, none⟩ (u6)).setCell ⟨g, 7, none⟩ (u7)).cell? a2 = some v2 ∧ ((((((((W.setCell ⟨g, 0, none⟩ (u0)).setCell ⟨g, 1, none⟩ (u1)).setCell ⟨g, 2, none⟩ (u2)).setCell ⟨g, 3, none⟩ (u3)).setCell ⟨g, 4, none⟩ (u4)).setCell ⟨g, 5, none⟩ (u5)).setCell ⟨g, 6, none⟩ (u6)).setCell ⟨g, 7, none⟩ (u7)).cell? a3 = some v3 ∧ ((((((((W.setCell ⟨g, 0, none⟩ (u0)).setCell ⟨g, 1, none⟩ (u1)).setCell ⟨g, 2, none⟩ (u2)).setCell ⟨g, 3, none⟩ (u3)).setCell ⟨g, 4, none⟩ (u4)).setCell ⟨g, 5, none⟩ (u5)).setCell ⟨g, 6, none⟩ (u6)).setCell ⟨g, 7, none⟩ (u7)).cell? a4 = some v4 ∧ ((((((((W.setCell ⟨g, 0, none⟩ (u0)).setCell ⟨g, 1, none⟩ (u1)).setCell ⟨g, 2, none⟩ (u2)).setCell ⟨g, 3, none⟩ (u3)).setCell ⟨g, 4, none⟩ (u4)).setCell ⟨g, 5, none⟩ (u5)).setCell ⟨g, 6, none⟩ (u6)).setCell ⟨g, 7, none⟩ (u7)).cell? a5 = some v5 ∧ ((((((((W.setCell ⟨g, 0, none⟩ (u0)).setCell ⟨g, 1, none⟩ (u1)).setCell ⟨g, 2, none⟩ (u2)).setCell ⟨g, 3, none⟩ (u3)).setCell ⟨g, 4, none⟩ (u4)).setCell ⟨g, 5, none⟩ (u5)).setCell ⟨g, 6, none⟩ (u6)).setCell ⟨g, 7, none⟩ (u7)).cell? a6 = some v6 ∧ ((((((((W.setCell ⟨g, 0, none⟩ (u0)).setCell ⟨g, 1, none⟩ (u1)).setCell ⟨g, 2, none⟩ (u2)).setCell ⟨g, 3, none⟩ (u3)).setCell ⟨g, 4, none⟩ (u4)).setCell ⟨g, 5, none⟩ (u5)).setCell ⟨g, 6, none⟩ (u6)).setCell ⟨g, 7, none⟩ (u7)).cell? a7 = some v7 ∧ ((((((((W.setCell ⟨g, 0, none⟩ (u0)).setCell ⟨g, 1, none⟩ (u1)).setCell ⟨g, 2, none⟩ (u2)).setCell ⟨g, 3, none⟩ (u3)).setCell ⟨g, 4, none⟩ (u4)).setCell ⟨g, 5, none⟩ (u5)).setCell ⟨g, 6, none⟩ (u6)).setCell ⟨g, 7, none⟩ (u7)).cell? a8 = some v8 ∧ ((((((((W.setCell ⟨g, 0, none⟩ (u0)).setCell ⟨g, 1, none⟩ (u1)).setCell ⟨g, 2, none⟩ (u2)).setCell ⟨g, 3, none⟩ (u3)).setCell ⟨g, 4, none⟩ (u4)).setCell ⟨g, 5, none⟩ (u5)).setCell ⟨g, 6, none⟩ (u6)).setCell ⟨g, 7, none⟩ (u7)).cell? a9 = some v9 ∧ ((((((((W.setCell ⟨g, 0, none⟩ (u0)).setCell ⟨g, 1, none⟩ (u1)).setCell ⟨g, 2, none⟩ (u2)).setCell ⟨g, 3, none⟩ (u3)).setCell ⟨g, 4, none⟩ (u4)).setCell ⟨g, 5, none⟩ (u5)).setCell ⟨g, 6, none⟩ (u6)).setCell ⟨g, 7, none⟩ (u7)).cell? a10 = some v10 :=
 ⟨cell_farC8 g m.1 h.1 _ _ _ _ _ _ _ _, cell_farC8 g m.2.1 h.2.1 _ _ _ _ _ _ _ _, cell_farC8 g m.2.2.1 h.2.2.1 _ _ _ _ _ _ _ _, cell_farC8 g m.2.2.2.1 h.2.2.2.1 _ _ _ _ _ _ _ _, cell_farC8 g m.2.2.2.2.1 h.2.2.2.2.1 _ _ _ _ _ _ _ _, cell_farC8 g m.2.2.2.2.2.1 h.2.2.2.2.2.1 _ _ _ _ _ _ _ _, cell_farC8 g m.2.2.2.2.2.2.1 h.2.2.2.2.2.2.1 _ _ _ _ _ _ _ _, cell_farC8 g m.2.2.2.2.2.2.2.1 h.2.2.2.2.2.2.2.1 _ _ _ _ _ _ _ _, cell_farC8 g m.2.2.2.2.2.2.2.2.1 h.2.2.2.2.2.2.2.2.1 _ _ _ _ _ _ _ _, cell_farC8 g m.2.2.2.2.2.2.2.2.2.1 h.2.2.2.2.2.2.2.2.2.1 _ _ _ _ _ _ _ _, cell_farC8 g m.2.2.2.2.2.2.2.2.2.2 h.2.2.2.2.2.2.2.2.2.2 _ _ _ _ _ _ _ _⟩
set_option maxRecDepth 100000 in
set_option maxHeartbeats 16000000 in
theorem l2Simple_any (N : Nat) : ∀ (lo : Bool) (a b : Int) (has ho : Bool) (c d : Int) (zl zh : Value) (w : World), (b + (if has then d else 0)).toNat ≤ N → IsES w zl true lo a b → IsES w zh has ho c d → Ends lo a b has ho c d →
 a.natAbs < lb 281 ∧ b.natAbs < lb 281 ∧ c.natAbs < lb 281 ∧ d.natAbs < lb 281 →
 Calls Tryz.prog 125 #[zl, zh] w fun e w' => ∃ z p q, e = .returned z ∧ IsQN 0 w' z p q ∧ Sim lo a b has ho c d p q ∧ Up w w' := by
 induction N with
 | zero =>
   intro lo a b has ho c d zl zh w hN _ _ hE
   exfalso
   have h1 := hE.b0; have h2 : 0 ≤ (if has then d else 0) := by
    cases has with
    | false => exact Int.le_refl _
    | true => exact Int.le_of_lt (hE.hi rfl).1
   omega
 | succ N ih =>
   intro lo a b has ho c d zl zh w hN hl hh hE hlb; have IH := Hd ih; have HN := Hd hN; have HE := Hd hE; have HLB := Hd hlb; obtain ⟨a1, n1, d1, l1, c1, a2, n2, d2, l2, c2, rfl, i1, i2⟩ := hl; obtain ⟨a3, n3, d3, l3, c3, a4, n4, d4, l4, c4, rfl, i3, i4⟩ := hh; have H1 := Hd i1; have H2 := Hd i2; have H3 := Hd i3; have H4 := Hd i4; have HBP : Hid (0 < b) := hE.b0; clear ih hN hE hlb i1 i2 i3 i4; obtain ⟨W0, hW0⟩ := exW (((w.alloc (.cells #[.bool true, .bool lo, .int .i64 a1, .bool n1, .slice d1 l1 c1, .int .i64 a2, .bool n2, .slice d2 l2 c2] 88)).alloc (.cells #[.bool has, .bool ho, .int .i64 a3, .bool n3, .slice d3 l3 c3, .int .i64 a4, .bool n4, .slice d4 l4 c4] 88)).alloc (.cells #[.int .i64 0, .bool false, .slice none 0 0, .int .i64 0, .bool false, .slice none 0 0] 70)); have HW0 := Hd hW0; have HB0 : Hid (Up w W0) := by unfold Hid; rw [← hW0]; exact below_al (below_al (below_alloc _ _) _) _
   have HS0 : Hid (W0.heap.size = w.heap.size + 3) := by show W0.heap.size = _; rw [← hW0]; simp
   have hx0_0 : Bx W0 (w.heap.size) [.bool true, .bool lo, .int .i64 a1, .bool n1, .slice d1 l1 c1, .int .i64 a2, .bool n2, .slice d2 l2 c2] := by
    rw [← hW0]; exact ((bx_new w _ _).alloc _).alloc _
   have hx0_1 : Bx W0 (w.heap.size + 1) [.bool has, .bool ho, .int .i64 a3, .bool n3, .slice d3 l3 c3, .int .i64 a4, .bool n4, .slice d4 l4 c4] := by
    rw [← hW0]; have h := bx_new (w.alloc (.cells #[.bool true, .bool lo, .int .i64 a1, .bool n1, .slice d1 l1 c1, .int .i64 a2, .bool n2, .slice d2 l2 c2] 88)) [.bool has, .bool ho, .int .i64 a3, .bool n3, .slice d3 l3 c3, .int .i64 a4, .bool n4, .slice d4 l4 c4] 88; rw [World.size_alloc] at h; exact (h).alloc _
   have hx0_2 : Bx W0 (w.heap.size + 1 + 1) [.int .i64 0, .bool false, .slice none 0 0, .int .i64 0, .bool false, .slice none 0 0] := by
    rw [← hW0]; have h := bx_new ((w.alloc (.cells #[.bool true, .bool lo, .int .i64 a1, .bool n1, .slice d1 l1 c1, .int .i64 a2, .bool n2, .slice d2 l2 c2] 88)).alloc (.cells #[.bool has, .bool ho, .int .i64 a3, .bool n3, .slice d3 l3 c3, .int .i64 a4, .bool n4, .slice d4 l4 c4] 88)) [.int .i64 0, .bool false, .slice none 0 0, .int .i64 0, .bool false, .slice none 0 0] 70; rw [World.size_alloc, World.size_alloc] at h; exact h
   have HX0 : Hid (∀ W, Up W0 W → Bx W (w.heap.size) [.bool true, .bool lo, .int .i64 a1, .bool n1, .slice d1 l1 c1, .int .i64 a2, .bool n2, .slice d2 l2 c2] ∧ Bx W (w.heap.size + 1) [.bool has, .bool ho, .int .i64 a3, .bool n3, .slice d3 l3 c3, .int .i64 a4, .bool n4, .slice d4 l4 c4] ∧ Bx W (w.heap.size + 1 + 1) [.int .i64 0, .bool false, .slice none 0 0, .int .i64 0, .bool false, .slice none 0 0]) := fun W hW => ⟨hx0_0.below hx0_0.lt hW, hx0_1.below hx0_1.lt hW, hx0_2.below hx0_2.lt hW⟩; clear hW0 hx0_0 hx0_1 hx0_2
   go_enter Tryz.func125, Tryz.ntmps125
   go_upto_region 1 with fail
   rw [HW0.o]
   go_wp2_with fail
   refine (l1Small_any 1 W0 (by decide) (by decide)).mono ?_; rintro e w1 ⟨z5, rfl, hz5, hb1⟩; obtain ⟨a5, n5, d5, l5, c5, rfl⟩ := hz5.shape'; have HC1 := Hd hb1; clear hz5 hb1; obtain ⟨W1, hW1⟩ := exW (w1.alloc (.cells #[.int .i64 a5, .bool n5, .slice d5 l5 c5] 54)); have HW1 := Hd hW1; have HB1 : Hid (Up w1 W1) := by unfold Hid; rw [← hW1]; exact below_alloc _ _
   have HS1 : Hid (W1.heap.size = w1.heap.size + 1) := by show W1.heap.size = _; rw [← hW1]; simp
   have hx1_0 : Bx W1 (w1.heap.size) [.int .i64 a5, .bool n5, .slice d5 l5 c5] := by
    rw [← hW1]; exact bx_new w1 _ _
   have HX1 : Hid (∀ W, Up W1 W → Bx W (w1.heap.size) [.int .i64 a5, .bool n5, .slice d5 l5 c5]) := fun W hW => hx1_0.below hx1_0.lt hW; have HA1 : Hid (Up W0 W1) := HC1.o.trans (HB1.o.mono HC1.o.size); have hlt1 : w.heap.size + 2 < w1.heap.size := by have := HC1.o.size; have := HS0.o; omega
   have hxb := (HX0.o W1 HA1.o).1; obtain ⟨k0, k1, k2, k3, k4, k5, k6, k7⟩ := hxb.c8; clear hW1 hx1_0 hxb
   go_upto_region 2 with fail
   rw [HW1.o]
   go_wp2_with fail
   refine (l2Floor_any 0 _ a b W1 (Nat.zero_le _) (qn_mk ((H1.o.below HB0.o).below HA1.o) ((H2.o.below HB0.o).below HA1.o)) (Int.ne_of_gt HBP.o)).mono ?_; rintro e w2 ⟨z6, f, r, rfl, hz6, hdv, hb2⟩; have hf := isDiv_ediv hdv HBP.o; have hfl : f.natAbs < lb 281 := by
    have e0 := HE.o.a0; have e1 : a / b ≤ a := Int.ediv_le_self b e0; have e2 := Int.ediv_nonneg e0 (Int.le_of_lt HBP.o); have e3 := HLB.o.1; rw [hf]; omega
   have hz6 := numZ_lt hz6 (lb_le 281 1000 (by decide) hfl); obtain ⟨a6, n6, d6, l6, c6, rfl⟩ := hz6.shape'; have HFV := Hd hf; have HFL := Hd hfl; have HC2 := Hd hb2; have hx5 := HX1.o w2 hb2; have hnR : NoInt w2 w1.heap.size := noInt_of hx5 (by simp); have HKK := keepsC3 w2 w1.heap.size (.int .i64 a6) (.bool n6) (.slice d6 l6 c6); have hF3 := hz6.keeps hnR hnR HKK; have hA3 : Up W0 (((w2.setCell ⟨w1.heap.size, 0, none⟩ (.int .i64 a6)).setCell ⟨w1.heap.size, 1, none⟩ (.bool n6)).setCell ⟨w1.heap.size, 2, none⟩ (.slice d6 l6 c6)) := ((((HA1.o.trans (hb2.mono HA1.o.size)).setCell (p := ⟨w1.heap.size, 0, none⟩) (by dsimp only; have := HC1.o.size; omega) (.int .i64 a6)).setCell (p := ⟨w1.heap.size, 1, none⟩) (by dsimp only; have := HC1.o.size; omega) (.bool n6)).setCell (p := ⟨w1.heap.size, 2, none⟩) (by dsimp only; have := HC1.o.size; omega) (.slice d6 l6 c6)); have hX3 := hx5.s3 (.int .i64 a6) (.bool n6) (.slice d6 l6 c6); obtain ⟨W3, hW3⟩ := exW (((w2.setCell ⟨w1.heap.size, 0, none⟩ (.int .i64 a6)).setCell ⟨w1.heap.size, 1, none⟩ (.bool n6)).setCell ⟨w1.heap.size, 2, none⟩ (.slice d6 l6 c6)); rw [hW3] at hF3 hA3 hX3; have HW3 := Hd hW3; have HF3 := Hd hF3; have HA3 := Hd hA3; have HX3 := Hd hX3; obtain ⟨m0, m1, m2⟩ := hx5.c3; obtain ⟨mf0, mf1, mf2⟩ := hx5.f3; clear hf hfl hz6 hdv hb2 hx5 hnR HKK hF3 hA3 hX3 hW3 k0 k1 k2 k3 k4 k5 k6 k7; have hxb := (HX0.o W3 HA3.o).1; obtain ⟨k0, k1, k2, k3, k4, k5, k6, k7⟩ := hxb.c8; clear hxb
   go_upto_region 4 with fail
   rw [HW3.o]
   go_cut [23, 49] (fun q23 q49 wx => q23 = .bool (!decide (b = 1 ∧ lo = false)) ∧ q49 = undef ∧ Up W3 wx)
   case first =>
    cases lo
    ·go_wp2_with fail
     refine (l2Whole_any 0 _ a b _ (Nat.zero_le _) (qn_mk ((H1.o.below HB0.o).below HA3.o) ((H2.o.below HB0.o).below HA3.o))).mono ?_; rintro e wx ⟨rfl, hbx⟩; have HBX := Hd hbx; have HD : Hid ((!decide (b = 1 ∧ false = false)) = !decide (b = 1)) := by show _ = _; simp
     clear hbx
     go_wp2_with fail
     go_meet
     exact ⟨by rw [HD.o], rfl, HBX.o⟩
    ·go_wp2_with fail
     go_meet
     exact ⟨by simp, rfl, Below.refl _ _⟩
   case rest =>
    obtain ⟨rfl, rfl, hbc⟩ := hcut; obtain ⟨wd, rfl⟩ : ∃ wd, wd = wc := ⟨_, rfl⟩; have HC4 := Hd hbc; have HA4 : Hid (Up W0 wd) := HA3.o.trans (hbc.mono HA3.o.size); have HF4 := Hd (HF3.o.below hbc); have HX4 := Hd (HX3.o.below HX3.o.lt hbc); clear hbc k0 k1 k2 k3 k4 k5 k6 k7; have hx4 := HX4.o; obtain ⟨y0, y1, y2⟩ := hx4.c3; clear hx4
    go_upto_if 23 with fail
    go_cut [49] (fun q49 wx => q49 = undef ∧ ∃ (a7 : Int) (n7 : Bool) (d7 : Option Addr) (l7 c7 : Nat), Bx wx w1.heap.size [.int .i64 a7, .bool n7, .slice d7 l7 c7] ∧ NumZ 0 wx (.agg #[.int .i64 a7, .bool n7, .slice d7 l7 c7]) (simN lo a b) 1000 ∧ Up W0 wx)
    case first =>
     by_cases hq : b = 1 ∧ lo = false
     ·rw [decide_eq_true hq]; have HSN : Hid (simN lo a b = f) := by
       unfold Hid
       unfold simN; rw [if_pos hq, HFV.o, hq.1, Int.ediv_one]
      clear hq
      go_wp2_with fail
      go_meet
      exact ⟨rfl, _, _, _, _, _, HX4.o, by rw [HSN.o]; exact HF4.o, HA4.o⟩
     ·rw [decide_eq_false hq]; have HSN : Hid (simN lo a b = f + 1) := by
       unfold Hid
       unfold simN; rw [if_neg hq, HFV.o]
      clear hq
      go_wp2_with fail
      go_region_with (first
       | (go_at_call 67
          refine (l1Small_any 1 _ (by decide) (by decide)).mono ?_; rintro e wt1 ⟨u1, rfl, hu, hb⟩; have HU1 := Hd (hu.mono' (B' := 0) (n' := 1000) (Nat.zero_le _) (by decide)); have HQ1 : Hid (Up wd wt1) := (Below.refl _ wd).drew.trans hb; have hxa := HX4.o.below HX4.o.lt HQ1.o; obtain ⟨q0, q1, q2⟩ := hxa.c3; clear hu hb hxa)
       | (go_at_call 44
          refine (l1AddN_any 0 _ _ f 1 1000 1000 _ (Nat.zero_le _) (HF4.o.below HQ1.o) HU1.o (by decide) (by decide)).mono ?_; rintro e wm ⟨u2, rfl, hu, hb⟩; have hu := numZ_lt hu (k := 1000) (by
           have e1 := lb_add 281 HFL.o (lb_one 281 (by decide)); have e2 : (f + 1).natAbs ≤ f.natAbs + 1 := Int.natAbs_add_le f 1; exact lb_le 282 1000 (by decide) (Nat.lt_of_le_of_lt e2 e1))
          obtain ⟨a7, n7, d7, l7, c7, rfl⟩ := hu.shape'; have HU2 := Hd hu; have HQM : Hid (Up wd wm) := HQ1.o.trans (hb.mono HQ1.o.size); have hxa := HX4.o.below HX4.o.lt HQM.o; obtain ⟨r0, r1, r2⟩ := hxa.c3; obtain ⟨rf0, rf1, rf2⟩ := hxa.f3; clear hu hb hxa))
      all_goals
       go_wp2_with fail
       go_meet
       have hxa := HX4.o.below HX4.o.lt HQM.o; have hnR : NoInt wm w1.heap.size := noInt_of hxa (by simp); exact ⟨rfl, _, _, _, _, _, (((hxa.set 0 (.int .i64 a7)).set 1 (.bool n7)).set 2 (.slice d7 l7 c7)), by rw [HSN.o]; exact HU2.o.keeps hnR hnR (keepsC3 wm w1.heap.size (.int .i64 a7) (.bool n7) (.slice d7 l7 c7)), ((((HA4.o.trans (HQM.o.mono HA4.o.size)).setCell (p := ⟨w1.heap.size, 0, none⟩) (by dsimp only; have := HC1.o.size; omega) (.int .i64 a7)).setCell (p := ⟨w1.heap.size, 1, none⟩) (by dsimp only; have := HC1.o.size; omega) (.bool n7)).setCell (p := ⟨w1.heap.size, 2, none⟩) (by dsimp only; have := HC1.o.size; omega) (.slice d7 l7 c7))⟩
    case rest =>
     obtain ⟨rfl, a7, n7, d7, l7, c7, hX5, hN5, hA5⟩ := hcut; obtain ⟨W5, rfl⟩ : ∃ W5, W5 = wc := ⟨_, rfl⟩; have HA5 := Hd hA5; have HN5 := Hd hN5; have HX5 := Hd hX5; clear hA5 hN5 hX5 y0 y1 y2; obtain ⟨nn, hnn⟩ := exW (simN lo a b); rw [hnn] at HN5; have HSN := Hd hnn; clear hnn; have hx6 := HX5.o; obtain ⟨g0, g1, g2⟩ := hx6.c3; clear hx6
     go_wp2_with fail
     refine (l1Sign_any 0 _ (nn) 1000 W5 (Nat.zero_le _) HN5.o).mono ?_; rintro e w6 ⟨rfl, hb6⟩; have HPOS : Hid (ordI (nn) 0 = 1) := by
      unfold Hid
      have := (simN_pos HE.o).1; rw [HSN.o] at this; unfold ordI; rw [if_neg (by omega), if_pos this]
     rw [HPOS.o]; have HA6 : Hid (Up W0 w6) := HA5.o.trans (hb6.mono HA5.o.size); have HV6 := Hd (HN5.o.below hb6); have HX6 := Hd (HX5.o.below HX5.o.lt hb6); have hz6 : w1.heap.size < w6.heap.size := HX6.o.lt; clear hb6 g0 g1 g2; have hx6 := HX6.o; have hx1 := (HX0.o w6 HA6.o).2.1; obtain ⟨g0, g1, g2⟩ := hx6.c3; obtain ⟨j0, j1, j2, j3, j4, j5, j6, j7⟩ := hx1.c8; clear hx6 hx1; have TO : Hid (∀ W, Up w6 W → Calls Tryz.prog 114 #[.agg #[.int .i64 a7, .bool n7, .slice d7 l7 c7]] W (fun e w' => ∃ z, e = .returned z ∧ IsQN 0 w' z (nn) 1 ∧ Up W w')) := fun W hW => l2OfZ_any 0 _ _ _ _ _ (nn) W (Nat.zero_le _) (HV6.o.below hW)
     go_upto_region 8 with fail
     go_cut [54] (fun q54 wx => q54 = .bool (!has || (decide (ordI ((nn) * d) (c * 1) < 0) || (decide (ordI ((nn) * d) (c * 1) = 0) && !ho))) ∧ Up w6 wx)
     case first =>
      cases has
      ·go_wp2_with fail
       go_quiet (fail)
       all_goals
        go_wp2_with fail
        go_meet
        exact ⟨rfl, below_drewN (Below.refl _ _) _⟩
      ·obtain ⟨r, hr⟩ := exW (ordI ((nn) * d) (c * 1)); have h3 := ordI_three ((nn) * d) (c * 1); have TC : Hid (∀ W z, Up w6 W → IsQN 0 W z (nn) 1 → Calls Tryz.prog 78 #[z, .agg #[.int .i64 a3, .bool n3, .slice d3 l3 c3, .int .i64 a4, .bool n4, .slice d4 l4 c4]] W (fun e w' => e = .returned (.int .i64 r) ∧ Up W w')) := fun W z hW hz => by
        rw [← hr]; exact l2Cmp_any 0 z _ (nn) 1 c d W (Nat.zero_le _) hz (qn_mk (((H3.o.below HB0.o).below HA6.o).below hW) (((H4.o.below HB0.o).below HA6.o).below hW))
       rw [hr] at h3; have HRR := Hd hr; clear hr; have HCUT : Hid (∀ wx, Up w6 wx → (.bool (!true || (decide (r < 0) || (decide (r = 0) && !ho))) : Value) = .bool (!true || (decide (ordI ((nn) * d) (c * 1) < 0) || (decide (ordI ((nn) * d) (c * 1) = 0) && !ho))) ∧ Up w6 wx) := fun wx h => ⟨by rw [HRR.o], h⟩
       rcases h3 with rfl | rfl | rfl
       ·go_wp2_with fail
        first
        | (go_region_with (first
          | (go_at_call 114
             refine (TO.o _ HQ2.o).mono ?_; rintro e wt3 ⟨u3, rfl, hu, hb⟩; have HU3 := Hd hu; have HQ3 : Hid (Up w6 wt3) := HQ2.o.trans (hb.mono HQ2.o.size); have hxa := (HX0.o wt3 (HA6.o.trans (HQ3.o.mono HA6.o.size))).2.1; have hxc := HX6.o.below HX6.o.lt HQ3.o; obtain ⟨p0, p1, p2, p3, p4, p5, p6, p7⟩ := hxa.c8; obtain ⟨zp0, zp1, zp2⟩ := hxc.c3; clear hxa hxc; clear hu hb)
          | (go_at_call 114
             refine (TO.o _ ?_).mono ?_
             ·exact (Below.refl _ w6).drew
             rintro e wt1 ⟨u1, rfl, hu, hb⟩; have HU1 := Hd hu; have HQ1 : Hid (Up w6 wt1) := (Below.refl _ w6).drew.trans hb; have hxa := (HX0.o wt1 (HA6.o.trans (HQ1.o.mono HA6.o.size))).2.1; have hxc := HX6.o.below HX6.o.lt HQ1.o; obtain ⟨s0, s1, s2, s3, s4, s5, s6, s7⟩ := hxa.c8; obtain ⟨zs0, zs1, zs2⟩ := hxc.c3; clear hxa hxc; clear hu hb)
          | (go_at_call 78
             refine (TC.o _ _ HQ3.o HU3.o).mono ?_; rintro e wt4 ⟨rfl, hb⟩; have HQ4 : Hid (Up w6 wt4) := HQ3.o.trans (hb.mono HQ3.o.size); have hxa := (HX0.o wt4 (HA6.o.trans (HQ4.o.mono HA6.o.size))).2.1; have hxc := HX6.o.below HX6.o.lt HQ4.o; obtain ⟨t0, t1, t2, t3, t4, t5, t6, t7⟩ := hxa.c8; obtain ⟨zt0, zt1, zt2⟩ := hxc.c3; clear hxa hxc; clear hb)
          | (go_at_call 78
             refine (TC.o _ _ HQ1.o HU1.o).mono ?_; rintro e wt2 ⟨rfl, hb⟩; have HQ2 : Hid (Up w6 wt2) := HQ1.o.trans (hb.mono HQ1.o.size); have hxa := (HX0.o wt2 (HA6.o.trans (HQ2.o.mono HA6.o.size))).2.1; have hxc := HX6.o.below HX6.o.lt HQ2.o; obtain ⟨u0, u1, u2, u3, u4, u5, u6, u7⟩ := hxa.c8; obtain ⟨zu0, zu1, zu2⟩ := hxc.c3; clear hxa hxc; clear hb)))
        | fail "no way"
        all_goals
         go_wp2_with fail
         go_meet
         first
          | exact HCUT.o _ HQ4.o
          | exact HCUT.o _ HQ2.o
       ·go_wp2_with fail
        first
        | (go_region_held3 (fun W => W.cell? ⟨w.heap.size + 1, 0, none⟩ = some (.bool true) ∧ W.cell? ⟨w.heap.size + 1, 1, none⟩ = some (.bool ho) ∧ W.cell? ⟨w.heap.size + 1, 2, none⟩ = some (.int .i64 a3) ∧ W.cell? ⟨w.heap.size + 1, 3, none⟩ = some (.bool n3) ∧ W.cell? ⟨w.heap.size + 1, 4, none⟩ = some (.slice d3 l3 c3) ∧ W.cell? ⟨w.heap.size + 1, 5, none⟩ = some (.int .i64 a4) ∧ W.cell? ⟨w.heap.size + 1, 6, none⟩ = some (.bool n4) ∧ W.cell? ⟨w.heap.size + 1, 7, none⟩ = some (.slice d4 l4 c4) ∧ W.cell? ⟨w1.heap.size, 0, none⟩ = some (.int .i64 a7) ∧ W.cell? ⟨w1.heap.size, 1, none⟩ = some (.bool n7) ∧ W.cell? ⟨w1.heap.size, 2, none⟩ = some (.slice d7 l7 c7)) (first
          | with_reducible assumption | go_keep) (first
          | (go_at_call 114
             refine (TO.o _ HQ2.o).mono ?_; rintro e wt3 ⟨u3, rfl, hu, hb⟩; have HU3 := Hd hu; have HQ3 : Hid (Up w6 wt3) := HQ2.o.trans (hb.mono HQ2.o.size); have hxa := (HX0.o wt3 (HA6.o.trans (HQ3.o.mono HA6.o.size))).2.1; have hxc := HX6.o.below HX6.o.lt HQ3.o; have hSwt3 := cc8_3 hxa hxc; clear hxa hxc; clear hu hb)
          | (go_at_call 114
             refine (TO.o _ ?_).mono ?_
             ·exact (Below.refl _ w6).drew
             rintro e wt1 ⟨u1, rfl, hu, hb⟩; have HU1 := Hd hu; have HQ1 : Hid (Up w6 wt1) := (Below.refl _ w6).drew.trans hb; have hxa := (HX0.o wt1 (HA6.o.trans (HQ1.o.mono HA6.o.size))).2.1; have hxc := HX6.o.below HX6.o.lt HQ1.o; have hSwt1 := cc8_3 hxa hxc; clear hxa hxc; clear hu hb)
          | (go_at_call 78
             refine (TC.o _ _ HQ3.o HU3.o).mono ?_; rintro e wt4 ⟨rfl, hb⟩; have HQ4 : Hid (Up w6 wt4) := HQ3.o.trans (hb.mono HQ3.o.size); have hxa := (HX0.o wt4 (HA6.o.trans (HQ4.o.mono HA6.o.size))).2.1; have hxc := HX6.o.below HX6.o.lt HQ4.o; have hSwt4 := cc8_3 hxa hxc; clear hxa hxc; clear hb)
          | (go_at_call 78
             refine (TC.o _ _ HQ1.o HU1.o).mono ?_; rintro e wt2 ⟨rfl, hb⟩; have HQ2 : Hid (Up w6 wt2) := HQ1.o.trans (hb.mono HQ1.o.size); have hxa := (HX0.o wt2 (HA6.o.trans (HQ2.o.mono HA6.o.size))).2.1; have hxc := HX6.o.below HX6.o.lt HQ2.o; have hSwt2 := cc8_3 hxa hxc; clear hxa hxc; clear hb)))
        | fail "no way"
        all_goals
         go_wp2_with fail
         go_meet
         first
          | exact HCUT.o _ HQ4.o
          | exact HCUT.o _ HQ2.o
       ·go_wp2_with fail
        first
        | (go_region_with (first
          | (go_at_call 114
             refine (TO.o _ HQ2.o).mono ?_; rintro e wt3 ⟨u3, rfl, hu, hb⟩; have HU3 := Hd hu; have HQ3 : Hid (Up w6 wt3) := HQ2.o.trans (hb.mono HQ2.o.size); have hxa := (HX0.o wt3 (HA6.o.trans (HQ3.o.mono HA6.o.size))).2.1; have hxc := HX6.o.below HX6.o.lt HQ3.o; obtain ⟨p0, p1, p2, p3, p4, p5, p6, p7⟩ := hxa.c8; obtain ⟨zp0, zp1, zp2⟩ := hxc.c3; clear hxa hxc; clear hu hb)
          | (go_at_call 114
             refine (TO.o _ ?_).mono ?_
             ·exact (Below.refl _ w6).drew
             rintro e wt1 ⟨u1, rfl, hu, hb⟩; have HU1 := Hd hu; have HQ1 : Hid (Up w6 wt1) := (Below.refl _ w6).drew.trans hb; have hxa := (HX0.o wt1 (HA6.o.trans (HQ1.o.mono HA6.o.size))).2.1; have hxc := HX6.o.below HX6.o.lt HQ1.o; obtain ⟨s0, s1, s2, s3, s4, s5, s6, s7⟩ := hxa.c8; obtain ⟨zs0, zs1, zs2⟩ := hxc.c3; clear hxa hxc; clear hu hb)
          | (go_at_call 78
             refine (TC.o _ _ HQ3.o HU3.o).mono ?_; rintro e wt4 ⟨rfl, hb⟩; have HQ4 : Hid (Up w6 wt4) := HQ3.o.trans (hb.mono HQ3.o.size); have hxa := (HX0.o wt4 (HA6.o.trans (HQ4.o.mono HA6.o.size))).2.1; have hxc := HX6.o.below HX6.o.lt HQ4.o; obtain ⟨t0, t1, t2, t3, t4, t5, t6, t7⟩ := hxa.c8; obtain ⟨zt0, zt1, zt2⟩ := hxc.c3; clear hxa hxc; clear hb)
          | (go_at_call 78
             refine (TC.o _ _ HQ1.o HU1.o).mono ?_; rintro e wt2 ⟨rfl, hb⟩; have HQ2 : Hid (Up w6 wt2) := HQ1.o.trans (hb.mono HQ1.o.size); have hxa := (HX0.o wt2 (HA6.o.trans (HQ2.o.mono HA6.o.size))).2.1; have hxc := HX6.o.below HX6.o.lt HQ2.o; obtain ⟨u0, u1, u2, u3, u4, u5, u6, u7⟩ := hxa.c8; obtain ⟨zu0, zu1, zu2⟩ := hxc.c3; clear hxa hxc; clear hb)))
        | fail "no way"
        all_goals
         go_wp2_with fail
         go_meet
         first
          | exact HCUT.o _ HQ4.o
          | exact HCUT.o _ HQ2.o
     case rest =>
      obtain ⟨rfl, hbc⟩ := hcut; obtain ⟨w7, rfl⟩ : ∃ w7, w7 = wc := ⟨_, rfl⟩; have HC7 := Hd hbc; have HA7 : Hid (Up W0 w7) := HA6.o.trans (hbc.mono HA6.o.size); have HV7 := Hd (HV6.o.below hbc); have HX7 := Hd (HX6.o.below HX6.o.lt hbc); have hz7 : w1.heap.size < w7.heap.size := HX7.o.lt; have HIF : Hid ((!has || (decide (ordI ((nn) * d) (c * 1) < 0) || (decide (ordI ((nn) * d) (c * 1) = 0) && !ho))) = true ↔ has = false ∨ simH ho c d (simN lo a b)) := by
       show _ ↔ _
       rw [HSN.o]
       cases has with
       | false => simp
       | true => exact Iff.trans (by simp) (Iff.trans (ord_simH (ho := ho) (c := c) (d := d) (n := nn)) (by simp))
      clear hbc g0 g1 g2 j0 j1 j2 j3 j4 j5 j6 j7 TO
      by_cases hfd : has = false ∨ simH ho c d (simN lo a b)
      ·rw [HIF.o.2 hfd]; have HTR := Hd hfd; clear hfd; have hx7 := HX7.o; obtain ⟨g0, g1, g2⟩ := hx7.c3; clear hx7
       go_wp2_with fail
       refine (l2OfZ_any 0 _ _ _ _ _ (nn) w7 (Nat.zero_le _) HV7.o).mono ?_; rintro e w8 ⟨z8, rfl, hz8, hb8⟩; obtain ⟨a8, n8, d8, l8, c8, a9, n9, d9, l9, c9, rfl, q1, q2⟩ := hz8; have HR1 := Hd q1; have HR2 := Hd q2; have HA8 : Hid (Up W0 w8) := HA7.o.trans (hb8.mono HA7.o.size); have hbr := (HX0.o w8 HA8.o).2.2; clear hb8 q1 q2 g0 g1 g2; obtain ⟨r0, r1, r2, r3, r4, r5⟩ := hbr.c6; obtain ⟨rf0, rf1, rf2, rf3, rf4, rf5⟩ := hbr.f6; clear hbr
       go_wp2
       have hbw := (HX0.o w8 HA8.o).2.2; have hnR : NoInt w8 (w.heap.size + 1 + 1) := noInt_of hbw (by simp); have HKK := keepsC6 w8 (w.heap.size + 1 + 1) (.int .i64 a8) (.bool n8) (.slice d8 l8 c8) (.int .i64 a9) (.bool n9) (.slice d9 l9 c9); have hD1 := HR1.o.keeps hnR hnR HKK; have hD2 := HR2.o.keeps hnR hnR HKK; have hB9 := bs6 (HB0.o.trans (HA8.o.mono HB0.o.size)) (w.heap.size + 1 + 1) (by omega) (.int .i64 a8) (.bool n8) (.slice d8 l8 c8) (.int .i64 a9) (.bool n9) (.slice d9 l9 c9); have hZ9 := hbw.s6 (.int .i64 a8) (.bool n8) (.slice d8 l8 c8) (.int .i64 a9) (.bool n9) (.slice d9 l9 c9); generalize (((((w8.setCell ⟨w.heap.size + 1 + 1, 0, none⟩ (.int .i64 a8)).setCell ⟨w.heap.size + 1 + 1, 1, none⟩ (.bool n8)).setCell ⟨w.heap.size + 1 + 1, 2, none⟩ (.slice d8 l8 c8)).setCell ⟨w.heap.size + 1 + 1, 3, none⟩ (.int .i64 a9)).setCell ⟨w.heap.size + 1 + 1, 4, none⟩ (.bool n9)).setCell ⟨w.heap.size + 1 + 1, 5, none⟩ (.slice d9 l9 c9) = W9 at *; obtain ⟨v0, v1, v2, v3, v4, v5⟩ := hZ9.c6; have hsim : Sim lo a b has ho c d (simN lo a b) 1 := Sim.found lo a b has ho c d HTR.o; rw [HSN.o] at hsim; refine bodyPost_ret (v := .agg #[.int .i64 a8, .bool n8, .slice d8 l8 c8, .int .i64 a9, .bool n9, .slice d9 l9 c9]) ?_ rfl ⟨_, _, _, rfl, qn_mk hD1 hD2, hsim, hB9⟩; simp [results, Tryz.results125, go_sem, v0, v1, v2, v3, v4, v5]
      ·have HFD := Hd hfd; have hff : (!has || (decide (ordI ((nn) * d) (c * 1) < 0) || (decide (ordI ((nn) * d) (c * 1) = 0) && !ho))) = false := by
        rw [← Bool.not_eq_true, HIF.o]; exact hfd
       rw [hff]; clear hfd hff; obtain rfl : has = true := by
        cases has with
        | false => exact absurd (.inl rfl) HFD.o
        | true => rfl
       have hst := ends_step HE.o (fun h => HFD.o (.inr h)); rw [← HFV.o] at hst; have HST := Hd hst; have HNF : Hid (nn = f + 1) := HSN.o.symm.trans hst.1; clear hst; have hx7 := HX7.o; obtain ⟨g0, g1, g2⟩ := hx7.c3; clear hx7; have T10 : Hid (∀ W zp, Up w7 W → NumZ 0 W zp 1 1000 → Calls Tryz.prog 105 #[.agg #[.int .i64 a7, .bool n7, .slice d7 l7 c7], zp] W (fun e w' => ∃ z, e = .returned z ∧ NumZ 0 w' z f 1000 ∧ Up W w')) := fun W zp hW hz => by
        refine (l1SubN_any _ _ nn 1 1000 1000 W (HV7.o.below hW) hz (by decide) (by decide)).mono ?_; rintro e w' ⟨z, rfl, hz, hb⟩; have e1 : nn - 1 = f := by have := HNF.o; omega
        rw [e1] at hz; exact ⟨z, rfl, numZ_lt hz (lb_le 281 1000 (by decide) HFL.o), hb⟩
       go_upto_region 10 with fail
       go_cut [6] (fun q6 wx => ∃ (gb : Nat) (a8 : Int) (n8 : Bool) (d8 : Option Addr) (l8 c8 : Nat), q6 = .pointer (some ⟨gb, 0, none⟩) ∧ w7.heap.size ≤ gb ∧ Bx wx gb [.int .i64 a8, .bool n8, .slice d8 l8 c8] ∧ NumZ 0 wx (.agg #[.int .i64 a8, .bool n8, .slice d8 l8 c8]) (f) 1000 ∧ Up w7 wx)
       case first =>
        go_wp2_with fail
        go_region_held3 (fun W => W.cell? ⟨w1.heap.size, 0, none⟩ = some (.int .i64 a7) ∧ W.cell? ⟨w1.heap.size, 1, none⟩ = some (.bool n7) ∧ W.cell? ⟨w1.heap.size, 2, none⟩ = some (.slice d7 l7 c7)) (first
         | with_reducible assumption | with_reducible exact putS_3_3 (by with_reducible assumption) _ (by dsimp only; omega) _ _ _ | go_keep) (first
         | (go_at_call 67
            refine (l1Small_any 1 _ (by decide) (by decide)).mono ?_; rintro e wt1 ⟨u1, rfl, hu, hb⟩; have HU1 := Hd (hu.mono' (B' := 0) (n' := 1000) (Nat.zero_le _) (by decide)); have HQ1 : Hid (Up w7 wt1) := by
             unfold Hid
             refine Below.trans ?_ (hb.mono ?_)
             ·repeat' (first | exact Below.refl _ _ | refine Below.drew ?_ | refine Below.alloc ?_ ?_ _ | assumption | (simp; done) | (simp; omega))
             ·simp
            have HK1 := Hd (fun (gg : Nat) (l : List Value) (hx : Bx _ gg l) => hx.below hx.lt hb); have hz1 := HQ1.o.size
            try (have hnb : Bx wt1 w7.heap.size [.int .i64 0, .bool false, .slice none 0 0] := by with_reducible exact HK1.o _ _ (bx_newD _ _ _))
            try have HNB := Hd hnb
            try clear hnb
            have hxa := HX7.o.below HX7.o.lt HQ1.o; have hS0 := cc3 hxa; clear hu hb hxa)
         | (go_at_call 105
            refine (T10.o _ _ ?_ ?_).mono ?_
            ·repeat' (first | exact HQ1.o | refine Below.drew ?_ | refine Below.alloc ?_ ?_ _ | assumption | (simp; done) | (simp; omega))
            ·first | exact HU1.o | exact HU1.o.below (below_alloc _ _)
            rintro e wm ⟨u2, rfl, hu, hb⟩; have HU2 := Hd hu; have HQM : Hid (Up w7 wm) := by
             unfold Hid
             refine Below.trans ?_ (hb.mono ?_)
             ·repeat' (first | exact HQ1.o | refine Below.drew ?_ | refine Below.alloc ?_ ?_ _ | assumption | (simp; done) | (simp; omega))
             ·first | exact hz1 | (simp; omega)
            have HK2 := Hd (fun (gg : Nat) (l : List Value) (hx : Bx _ gg l) => hx.below hx.lt hb); have hz2 := HQM.o.size
            try (have hnb : Bx wm w7.heap.size [.int .i64 0, .bool false, .slice none 0 0] := by with_reducible exact HK2.o _ _ HNB.o)
            try (have hnb : Bx wm wt1.heap.size [.int .i64 0, .bool false, .slice none 0 0] := by with_reducible exact HK2.o _ _ (bx_new _ _ _))
            try (have n0 := hnb.cell 0; have n1 := hnb.cell 1; have n2 := hnb.cell 2; have nf0 := hnb.frozen 0; have nf1 := hnb.frozen 1; have nf2 := hnb.frozen 2; simp only [List.getElem?_cons_zero, List.getElem?_cons_succ] at n0 n1 n2)
            try have HNC := Hd hnb
            try clear hnb
            obtain ⟨a8, n8, d8, l8, c8, rfl⟩ := hu.shape'; have hxa := HX7.o.below HX7.o.lt HQM.o; have hS1 := cc3 hxa; clear hu hb hxa))
        all_goals
         go_wp2_with fail
         go_meet
         first
          | (have hnb := HNC.o; exact ⟨_, a8, n8, d8, l8, c8, rfl, (by first | exact leR | exact hz1), ((hnb.set 0 _).set 1 _).set 2 _, HU2.o.keeps (noInt_of hnb (by simp)) (noInt_of hnb (by simp)) (keepsC3 wm _ _ _ _), ((HQM.o.setCell (by dsimp only; omega) _).setCell (by dsimp only; omega) _).setCell (by dsimp only; omega) _⟩)
          | exact ⟨wm.heap.size, a8, n8, d8, l8, c8, rfl, hz2, bx_new wm _ _, HU2.o.below (below_alloc _ _), HQM.o.alloc HQM.o.size _⟩
       case rest =>
        obtain ⟨gb, a8, n8, d8, l8, c8, rfl, hgb, hbx, hnz, hbc⟩ := hcut; obtain ⟨wb, rfl⟩ : ∃ wb, wb = wc := ⟨_, rfl⟩; have HA8 : Hid (Up W0 wb) := HA7.o.trans (hbc.mono HA7.o.size); have HX8 := Hd hbx; have HF8 := Hd hnz; have hzb : gb < wb.heap.size := hbx.lt; clear hbc hbx hnz g0 g1 g2; obtain ⟨WU, hWU⟩ := exW (wb.alloc (.cells #[.bool false, .bool false, .int .i64 0, .bool false, .slice none 0 0, .int .i64 0, .bool false, .slice none 0 0] 88)); have HWU := Hd hWU; have HBu : Hid (Up wb WU) := by unfold Hid; rw [← hWU]; exact below_alloc _ _
        have HSu : Hid (WU.heap.size = wb.heap.size + 1) := by show WU.heap.size = _; rw [← hWU]; simp
        have hxu_0 : Bx WU (wb.heap.size) [.bool false, .bool false, .int .i64 0, .bool false, .slice none 0 0, .int .i64 0, .bool false, .slice none 0 0] := by
         rw [← hWU]; exact bx_new wb _ _
        have HXu : Hid (∀ W, Up WU W → Bx W (wb.heap.size) [.bool false, .bool false, .int .i64 0, .bool false, .slice none 0 0, .int .i64 0, .bool false, .slice none 0 0]) := fun W hW => hxu_0.below hxu_0.lt hW; clear hWU hxu_0; have HAU : Hid (Up W0 WU) := HA8.o.trans (HBu.o.mono HA8.o.size); have HXU8 := Hd (HX8.o.below HX8.o.lt HBu.o); have HFU := Hd (HF8.o.below HBu.o); have hxb := (HX0.o WU HAU.o).1; have hx8 := HXU8.o; obtain ⟨k0, k1, k2, k3, k4, k5, k6, k7⟩ := hxb.c8; obtain ⟨g0, g1, g2⟩ := hx8.c3; clear hxb hx8; have T12a : Hid (∀ W, Up WU W → Calls Tryz.prog 114 #[.agg #[.int .i64 a8, .bool n8, .slice d8 l8 c8]] W (fun e w' => ∃ z, e = .returned z ∧ IsQN 0 w' z f 1 ∧ Up W w')) := fun W hW => l2OfZ_any 0 _ _ _ _ _ f W (Nat.zero_le _) (HFU.o.below hW); have HR2 : Hid (ordI (a * 1) (f * b) = if a - f * b ≠ 0 then 1 else 0) := by
         unfold Hid
         have e1 := div_parts a b HBP.o; rw [← HFV.o] at e1; unfold ordI; rw [Int.mul_one, if_neg (by omega)]
         by_cases h0 : a - f * b ≠ 0
         ·rw [if_pos h0, if_pos (by omega)]
         ·rw [if_neg h0, if_neg (by omega)]
        go_upto_region 12 with fail
        rw [HWU.o]
        go_cut [70] (fun q70 wx => q70 = .bool (decide (a - f * b ≠ 0)) ∧ Up WU wx)
        case first =>
         obtain ⟨r2, hr2⟩ := exW (ordI (a * 1) (f * b)); have HPOS2 : Hid (decide (0 < r2) = decide (a - f * b ≠ 0)) := by
          show _ = _
          rw [← hr2, HR2.o]
          by_cases h0 : a - f * b ≠ 0
          ·rw [if_pos h0, decide_eq_true h0]; rfl
          ·rw [if_neg h0, decide_eq_false h0]; rfl
         have T12b : Hid (∀ W z, Up WU W → IsQN 0 W z f 1 → Calls Tryz.prog 78 #[.agg #[.int .i64 a1, .bool n1, .slice d1 l1 c1, .int .i64 a2, .bool n2, .slice d2 l2 c2], z] W (fun e w' => e = .returned (.int .i64 r2) ∧ Up W w')) := fun W z hW hz => by
          rw [← hr2]; exact l2Cmp_any 0 _ z a b f 1 W (Nat.zero_le _) (qn_mk (((H1.o.below HB0.o).below HAU.o).below hW) (((H2.o.below HB0.o).below HAU.o).below hW)) hz
         clear hr2
         go_wp2_with fail
         go_region_held3 (fun W => W.cell? ⟨w.heap.size, 0, none⟩ = some (.bool true) ∧ W.cell? ⟨w.heap.size, 1, none⟩ = some (.bool lo) ∧ W.cell? ⟨w.heap.size, 2, none⟩ = some (.int .i64 a1) ∧ W.cell? ⟨w.heap.size, 3, none⟩ = some (.bool n1) ∧ W.cell? ⟨w.heap.size, 4, none⟩ = some (.slice d1 l1 c1) ∧ W.cell? ⟨w.heap.size, 5, none⟩ = some (.int .i64 a2) ∧ W.cell? ⟨w.heap.size, 6, none⟩ = some (.bool n2) ∧ W.cell? ⟨w.heap.size, 7, none⟩ = some (.slice d2 l2 c2) ∧ W.cell? ⟨gb, 0, none⟩ = some (.int .i64 a8) ∧ W.cell? ⟨gb, 1, none⟩ = some (.bool n8) ∧ W.cell? ⟨gb, 2, none⟩ = some (.slice d8 l8 c8)) (first
          | with_reducible assumption | go_keep) (first
          | (go_at_call 114
             refine (T12a.o _ ?_).mono ?_
             ·exact (Below.refl _ WU).drew
             rintro e wt1 ⟨u1, rfl, hu, hb⟩; have HU1 := Hd hu; have HQ1 : Hid (Up WU wt1) := (Below.refl _ WU).drew.trans hb; have hxa := (HX0.o wt1 (HAU.o.trans (HQ1.o.mono HAU.o.size))).1; have hxc := HXU8.o.below HXU8.o.lt HQ1.o; have hS0 := cc8_3 hxa hxc; clear hu hb hxa hxc)
          | (go_at_call 78
             refine (T12b.o _ _ HQ1.o HU1.o).mono ?_; rintro e wm ⟨rfl, hb⟩; have HQM : Hid (Up WU wm) := HQ1.o.trans (hb.mono HQ1.o.size); have hxa := (HX0.o wm (HAU.o.trans (HQM.o.mono HAU.o.size))).1; have hxc := HXU8.o.below HXU8.o.lt HQM.o; have hS1 := cc8_3 hxa hxc; clear hb hxa hxc))
         all_goals
          go_wp2_with fail
          go_meet
          exact ⟨by rw [← HPOS2.o], HQM.o⟩
        case rest =>
         obtain ⟨rfl, hbc⟩ := hcut; obtain ⟨wv, rfl⟩ : ∃ wv, wv = wc := ⟨_, rfl⟩; have HCV := Hd hbc; have HAV : Hid (Up W0 wv) := HAU.o.trans (hbc.mono HAU.o.size); have HXV8 := Hd (HXU8.o.below HXU8.o.lt hbc); have HFVv := Hd (HFU.o.below hbc); have HXVu := Hd (HXu.o wv hbc); clear hbc k0 k1 k2 k3 k4 k5 k6 k7 g0 g1 g2
         by_cases hne : a - f * b ≠ 0
         ·rw [decide_eq_true hne]; have HNE := Hd hne; clear hne; have hxb := (HX0.o wv HAV.o).1; have hx8 := HXV8.o; obtain ⟨k0, k1, k2, k3, k4, k5, k6, k7⟩ := hxb.c8; obtain ⟨g0, g1, g2⟩ := hx8.c3; clear hxb hx8; have T13 : Hid (∀ W, Up wv W → Calls Tryz.prog 158 #[.agg #[.int .i64 a1, .bool n1, .slice d1 l1 c1, .int .i64 a2, .bool n2, .slice d2 l2 c2], .agg #[.int .i64 a8, .bool n8, .slice d8 l8 c8]] W (fun e w' => ∃ z', e = .returned z' ∧ IsQN 0 w' z' b (a - f * b) ∧ Up W w')) := fun W hW => by
           have e1 := div_parts a b HBP.o; rw [← HFV.o] at e1; have e2 := HLB.o.2.1; exact l2Turn_any _ _ a b f W (qn_mk (((H1.o.below HB0.o).below HAV.o).below hW) (((H2.o.below HB0.o).below HAV.o).below hW)) (HFVv.o.below hW) (lb_le 281 1000 (by decide) (by omega))
          go_wp2_with fail
          go_region_held3 (fun W => W.cell? ⟨w.heap.size, 0, none⟩ = some (.bool true) ∧ W.cell? ⟨w.heap.size, 1, none⟩ = some (.bool lo) ∧ W.cell? ⟨w.heap.size, 2, none⟩ = some (.int .i64 a1) ∧ W.cell? ⟨w.heap.size, 3, none⟩ = some (.bool n1) ∧ W.cell? ⟨w.heap.size, 4, none⟩ = some (.slice d1 l1 c1) ∧ W.cell? ⟨w.heap.size, 5, none⟩ = some (.int .i64 a2) ∧ W.cell? ⟨w.heap.size, 6, none⟩ = some (.bool n2) ∧ W.cell? ⟨w.heap.size, 7, none⟩ = some (.slice d2 l2 c2) ∧ W.cell? ⟨gb, 0, none⟩ = some (.int .i64 a8) ∧ W.cell? ⟨gb, 1, none⟩ = some (.bool n8) ∧ W.cell? ⟨gb, 2, none⟩ = some (.slice d8 l8 c8)) (first
           | with_reducible assumption | with_reducible exact putS_11_8 (by with_reducible assumption) (wb.heap.size) (by dsimp only; omega) _ _ _ _ _ _ _ _ | go_keep) (first
           | (go_at_call 158
              refine (T13.o _ ?_).mono ?_
              ·exact (Below.refl _ wv).drew
              rintro e wm ⟨u1, rfl, hu, hb⟩; obtain ⟨a9, n9, d9, l9, c9, a10, n10, d10, l10, c10, rfl, j1, j2⟩ := hu; have HU1 := Hd j1; have HU2 := Hd j2; have HQM : Hid (Up wv wm) := (Below.refl _ wv).drew.trans hb; have hxa := (HX0.o wm (HAV.o.trans (HQM.o.mono HAV.o.size))).1; have hxc := HXV8.o.below HXV8.o.lt HQM.o; have hS0 := cc8_3 hxa hxc; have hxr := HXVu.o.below HXVu.o.lt HQM.o; obtain ⟨r0, r1, r2, r3, r4, r5, r6, r7⟩ := hxr.c8; obtain ⟨rf0, rf1, rf2, rf3, rf4, rf5, rf6, rf7⟩ := hxr.f8; clear j1 j2 hb hxa hxc hxr))
          all_goals
           try simp only [List.getElem_toArray, List.getElem_cons_succ, List.getElem_cons_zero, Act.put, List.setIfInBounds_toArray, List.set_cons_succ, List.set_cons_zero]
           have hxr := HXVu.o.below HXVu.o.lt HQM.o; have hnR : NoInt wm wb.heap.size := noInt_of hxr (by simp); have HKK := keepsC8 wm wb.heap.size (.bool true) (.bool lo) (.int .i64 a9) (.bool n9) (.slice d9 l9 c9) (.int .i64 a10) (.bool n10) (.slice d10 l10 c10); have hD1 := HU1.o.keeps hnR hnR HKK; have hD2 := HU2.o.keeps hnR hnR HKK; have hF9 := (HFVv.o.below HQM.o).keeps hnR hnR HKK; have hA9 := bs8 (HBu.o.trans ((HCV.o.trans (HQM.o.mono HCV.o.size)).mono HBu.o.size)) wb.heap.size (by omega) (.bool true) (.bool lo) (.int .i64 a9) (.bool n9) (.slice d9 l9 c9) (.int .i64 a10) (.bool n10) (.slice d10 l10 c10); have hX9 := hxr.s8 (.bool true) (.bool lo) (.int .i64 a9) (.bool n9) (.slice d9 l9 c9) (.int .i64 a10) (.bool n10) (.slice d10 l10 c10); clear r0 rf0 r1 rf1 r2 rf2 r3 rf3 r4 rf4 r5 rf5 r6 rf6 r7 rf7 hS0 hnR hxr HKK k0 k1 k2 k3 k4 k5 k6 k7 g0 g1 g2; generalize (((((((wm.setCell ⟨wb.heap.size, 0, none⟩ (.bool true)).setCell ⟨wb.heap.size, 1, none⟩ (.bool lo)).setCell ⟨wb.heap.size, 2, none⟩ (.int .i64 a9)).setCell ⟨wb.heap.size, 3, none⟩ (.bool n9)).setCell ⟨wb.heap.size, 4, none⟩ (.slice d9 l9 c9)).setCell ⟨wb.heap.size, 5, none⟩ (.int .i64 a10)).setCell ⟨wb.heap.size, 6, none⟩ (.bool n10)).setCell ⟨wb.heap.size, 7, none⟩ (.slice d10 l10 c10) = Wt at *; have HAT := Hd (HA8.o.trans (hA9.mono HA8.o.size)); have HX8T := Hd (HX8.o.below HX8.o.lt hA9); have HXUT := Hd hX9; have HF8T := Hd hF9; have HUE : Hid (IsES Wt (.agg #[.bool true, .bool lo, .int .i64 a9, .bool n9, .slice d9 l9 c9, .int .i64 a10, .bool n10, .slice d10 l10 c10]) true lo b (a - f * b)) := ⟨_, _, _, _, _, _, _, _, _, _, rfl, hD1, hD2⟩; have HUEN : Hid (Ends ho d (c - f * d) true lo b (a - f * b)) := by
            have h9 := HST.o.2.2.2; rw [decide_eq_true HNE.o] at h9; exact h9
           have HUMS : Hid ((c - f * d + (if true = true then a - f * b else 0)).toNat ≤ N) := by
            unfold Hid
            have e1 := div_parts a b HBP.o; rw [← HFV.o] at e1; have e2 := HST.o.2.1; have e3 := HST.o.2.2.1; have e5 := HN.o; simp only [if_true] at e5 ⊢; omega
           have HUBD : Hid (b.natAbs < lb 281 ∧ (a - f * b).natAbs < lb 281) := by
            have e1 := div_parts a b HBP.o; rw [← HFV.o] at e1; have e2 := HLB.o.2.1; exact ⟨e2, by omega⟩
           have HUSI : Hid (∀ p q, Sim ho d (c - f * d) true lo b (a - f * b) p q → Sim ho d (c - f * d) (decide (a - f * b ≠ 0)) lo b (a - f * b) p q) := fun p q h => by rw [decide_eq_true HNE.o]; exact h
           clear hA9 hX9 hF9 hD1 hD2; have hzt : gb < Wt.heap.size := HX8T.o.lt; have hzu : wb.heap.size < Wt.heap.size := HXUT.o.lt; have hxb := (HX0.o Wt HAT.o).2.1; have hx8 := HX8T.o; obtain ⟨k0, k1, k2, k3, k4, k5, k6, k7⟩ := hxb.c8; obtain ⟨g0, g1, g2⟩ := hx8.c3; clear hxb hx8; have T14 : Hid (∀ W, Up Wt W → Calls Tryz.prog 158 #[.agg #[.int .i64 a3, .bool n3, .slice d3 l3 c3, .int .i64 a4, .bool n4, .slice d4 l4 c4], .agg #[.int .i64 a8, .bool n8, .slice d8 l8 c8]] W (fun e w' => ∃ z', e = .returned z' ∧ IsQN 0 w' z' d (c - f * d) ∧ Up W w')) := fun W hW => by
            have e1 := HST.o.2.1; have e2 := HST.o.2.2.1; have e3 := HLB.o.2.2.2; exact l2Turn_any _ _ c d f W (qn_mk (((H3.o.below HB0.o).below HAT.o).below hW) (((H4.o.below HB0.o).below HAT.o).below hW)) (HF8T.o.below hW) (lb_le 281 1000 (by decide) (by omega))
           go_upto_region 14 with fail
           go_cut [8] (fun q8 wx => ∃ (gd : Nat) (a11 : Int) (n11 : Bool) (d11 : Option Addr) (l11 c11 : Nat) (a12 : Int) (n12 : Bool) (d12 : Option Addr) (l12 c12 : Nat), q8 = .pointer (some ⟨gd, 0, none⟩) ∧ Wt.heap.size ≤ gd ∧ Bx wx gd [.bool true, .bool ho, .int .i64 a11, .bool n11, .slice d11 l11 c11, .int .i64 a12, .bool n12, .slice d12 l12 c12] ∧ NumZ 0 wx (.agg #[.int .i64 a11, .bool n11, .slice d11 l11 c11]) (d) 1000 ∧ NumZ 0 wx (.agg #[.int .i64 a12, .bool n12, .slice d12 l12 c12]) (c - f * d) 1000 ∧ Up Wt wx)
           case first =>
            go_wp2_with fail
            go_region_held3 (fun W => W.cell? ⟨w.heap.size + 1, 0, none⟩ = some (.bool true) ∧ W.cell? ⟨w.heap.size + 1, 1, none⟩ = some (.bool ho) ∧ W.cell? ⟨w.heap.size + 1, 2, none⟩ = some (.int .i64 a3) ∧ W.cell? ⟨w.heap.size + 1, 3, none⟩ = some (.bool n3) ∧ W.cell? ⟨w.heap.size + 1, 4, none⟩ = some (.slice d3 l3 c3) ∧ W.cell? ⟨w.heap.size + 1, 5, none⟩ = some (.int .i64 a4) ∧ W.cell? ⟨w.heap.size + 1, 6, none⟩ = some (.bool n4) ∧ W.cell? ⟨w.heap.size + 1, 7, none⟩ = some (.slice d4 l4 c4) ∧ W.cell? ⟨gb, 0, none⟩ = some (.int .i64 a8) ∧ W.cell? ⟨gb, 1, none⟩ = some (.bool n8) ∧ W.cell? ⟨gb, 2, none⟩ = some (.slice d8 l8 c8)) (first
             | with_reducible assumption | with_reducible exact putS_11_8 (by with_reducible assumption) _ (by dsimp only; omega) _ _ _ _ _ _ _ _ | go_keep) (first
             | (go_at_call 158
                refine (T14.o _ ?_).mono ?_
                ·repeat' (first | exact Below.refl _ _ | refine Below.drew ?_ | refine Below.alloc ?_ ?_ _ | assumption | (simp; done) | (simp; omega))
                rintro e wm ⟨u1, rfl, hu, hb⟩; obtain ⟨a11, n11, d11, l11, c11, a12, n12, d12, l12, c12, rfl, j1, j2⟩ := hu; have HU1 := Hd j1; have HU2 := Hd j2; have HQM : Hid (Up Wt wm) := by
                 unfold Hid
                 refine Below.trans ?_ (hb.mono ?_)
                 ·repeat' (first | exact Below.refl _ _ | refine Below.drew ?_ | refine Below.alloc ?_ ?_ _ | assumption | (simp; done) | (simp; omega))
                 ·simp
                have HK1 := Hd (fun (gg : Nat) (l : List Value) (hx : Bx _ gg l) => hx.below hx.lt hb); have hz1 := HQM.o.size
                try (have hnb : Bx wm Wt.heap.size [.bool false, .bool false, .int .i64 0, .bool false, .slice none 0 0, .int .i64 0, .bool false, .slice none 0 0] := by with_reducible exact HK1.o _ _ (bx_newD _ _ _))
                try (have n0' := hnb.cell 0; have nf0' := hnb.frozen 0; have n1' := hnb.cell 1; have nf1' := hnb.frozen 1; have n2' := hnb.cell 2; have nf2' := hnb.frozen 2; have n3' := hnb.cell 3; have nf3' := hnb.frozen 3; have n4' := hnb.cell 4; have nf4' := hnb.frozen 4; have n5' := hnb.cell 5; have nf5' := hnb.frozen 5; have n6' := hnb.cell 6; have nf6' := hnb.frozen 6; have n7' := hnb.cell 7; have nf7' := hnb.frozen 7; simp only [List.getElem?_cons_zero, List.getElem?_cons_succ] at n0' n1' n2' n3' n4' n5' n6' n7')
                try have HNC := Hd hnb
                try clear hnb
                have hxa := (HX0.o wm (HAT.o.trans (HQM.o.mono HAT.o.size))).2.1; have hxc := HX8T.o.below HX8T.o.lt HQM.o; have hSwm := cc8_3 hxa hxc; clear hxa hxc; clear j1 j2 hb))
            all_goals
             go_wp2_with fail
             go_meet
             first
              | (have hnb := HNC.o; exact ⟨_, a11, n11, d11, l11, c11, a12, n12, d12, l12, c12, rfl, leR, ((((((((hnb.set 0 (.bool true)).set 1 (.bool ho)).set 2 (.int .i64 a11)).set 3 (.bool n11)).set 4 (.slice d11 l11 c11)).set 5 (.int .i64 a12)).set 6 (.bool n12)).set 7 (.slice d12 l12 c12)), HU1.o.keeps (noInt_of hnb (by simp)) (noInt_of hnb (by simp)) (keepsC8 wm _ _ _ _ _ _ _ _ _), HU2.o.keeps (noInt_of hnb (by simp)) (noInt_of hnb (by simp)) (keepsC8 wm _ _ _ _ _ _ _ _ _), ((((((((HQM.o.setCell (p := ⟨Wt.heap.size, 0, none⟩) (by dsimp only; omega) (.bool true)).setCell (p := ⟨Wt.heap.size, 1, none⟩) (by dsimp only; omega) (.bool ho)).setCell (p := ⟨Wt.heap.size, 2, none⟩) (by dsimp only; omega) (.int .i64 a11)).setCell (p := ⟨Wt.heap.size, 3, none⟩) (by dsimp only; omega) (.bool n11)).setCell (p := ⟨Wt.heap.size, 4, none⟩) (by dsimp only; omega) (.slice d11 l11 c11)).setCell (p := ⟨Wt.heap.size, 5, none⟩) (by dsimp only; omega) (.int .i64 a12)).setCell (p := ⟨Wt.heap.size, 6, none⟩) (by dsimp only; omega) (.bool n12)).setCell (p := ⟨Wt.heap.size, 7, none⟩) (by dsimp only; omega) (.slice d12 l12 c12))⟩)
              | exact ⟨wm.heap.size, a11, n11, d11, l11, c11, a12, n12, d12, l12, c12, rfl, hz1, bx_new wm _ _, HU1.o.below (below_alloc _ _), HU2.o.below (below_alloc _ _), HQM.o.alloc HQM.o.size _⟩
           case rest =>
            obtain ⟨gd, a11, n11, d11, l11, c11, a12, n12, d12, l12, c12, rfl, hgd, hbx, hz11, hz12, hbc⟩ := hcut; obtain ⟨we, rfl⟩ : ∃ we, we = wc := ⟨_, rfl⟩; have HAE : Hid (Up W0 we) := HAT.o.trans (hbc.mono HAT.o.size); have HX8E := Hd (HX8T.o.below HX8T.o.lt hbc); have HXUE := Hd (HXUT.o.below HXUT.o.lt hbc); have HF8E := Hd (HF8T.o.below hbc); have HUEE := Hd (HUE.o.below hbc); have HDN : Hid (IsES we (.agg #[.bool true, .bool ho, .int .i64 a11, .bool n11, .slice d11 l11 c11, .int .i64 a12, .bool n12, .slice d12 l12 c12]) true ho d (c - f * d)) := ⟨_, _, _, _, _, _, _, _, _, _, rfl, hz11, hz12⟩; clear hbc hz11 hz12 k0 k1 k2 k3 k4 k5 k6 k7 g0 g1 g2; have hxu := HXUE.o; obtain ⟨k0, k1, k2, k3, k4, k5, k6, k7⟩ := hbx.c8; obtain ⟨j0, j1, j2, j3, j4, j5, j6, j7⟩ := hxu.c8; clear hbx hxu
            go_wp2_with fail
            refine (IH.o ho d (c - f * d) true lo b (a - f * b) _ _ we HUMS.o HDN.o HUEE.o HUEN.o ⟨HLB.o.2.2.2, (by have e1 := HST.o.2.1; have e2 := HST.o.2.2.1; have e3 := HLB.o.2.2.2; omega), HUBD.o.1, HUBD.o.2⟩).mono ?_; rintro e wf ⟨z, p, q, rfl, hq, hsim, hbf⟩; obtain ⟨a13, n13, d13, l13, c13, a14, n14, d14, l14, c14, rfl, y1, y2⟩ := hq; have HP := Hd y1; have HQ := Hd y2; have HSI := Hd (HUSI.o p q hsim); have HAF : Hid (Up W0 wf) := HAE.o.trans (hbf.mono HAE.o.size); have HX8F := Hd (HX8E.o.below HX8E.o.lt hbf); have HF8F := Hd (HF8E.o.below hbf); have hzf : gb < wf.heap.size := HX8F.o.lt; have hz0 : w.heap.size + 2 < wf.heap.size := by have := HAF.o.size; have := HS0.o; omega
            clear y1 y2 hsim hbf k0 j0 k1 j1 k2 j2 k3 j3 k4 j4 k5 j5 k6 j6 k7 j7; obtain ⟨WG, hWG⟩ := exW (wf.alloc (.cells #[.int .i64 a13, .bool n13, .slice d13 l13 c13, .int .i64 a14, .bool n14, .slice d14 l14 c14] 70)); have HWG := Hd hWG; have HBg : Hid (Up wf WG) := by unfold Hid; rw [← hWG]; exact below_alloc _ _
            have HSg : Hid (WG.heap.size = wf.heap.size + 1) := by show WG.heap.size = _; rw [← hWG]; simp
            have hxg_0 : Bx WG (wf.heap.size) [.int .i64 a13, .bool n13, .slice d13 l13 c13, .int .i64 a14, .bool n14, .slice d14 l14 c14] := by
             rw [← hWG]; exact bx_new wf _ _
            have HXg : Hid (∀ W, Up WG W → Bx W (wf.heap.size) [.int .i64 a13, .bool n13, .slice d13 l13 c13, .int .i64 a14, .bool n14, .slice d14 l14 c14]) := fun W hW => hxg_0.below hxg_0.lt hW; obtain ⟨x0, x1, x2, x3, x4, x5⟩ := hxg_0.c6; clear hWG hxg_0; have HAG : Hid (Up W0 WG) := HAF.o.trans (HBg.o.mono HAF.o.size); have HX8G := Hd (HX8F.o.below HX8F.o.lt HBg.o); have HF8G := Hd (HF8F.o.below HBg.o); have HPG := Hd (HP.o.below HBg.o); have HQG := Hd (HQ.o.below HBg.o); have hx8 := HX8G.o; obtain ⟨g0, g1, g2⟩ := hx8.c3; clear hx8; have HSIM : Hid (Sim lo a b true ho c d (f * p + q) p) := by
             unfold Hid
             have h9 := HSI.o; rw [HFV.o] at h9 ⊢; exact Sim.step lo a b ho c d p q (fun h => HFD.o (.inr h)) h9
            have T16a : Hid (∀ W, Up WG W → Calls Tryz.prog 49 #[.agg #[.int .i64 a8, .bool n8, .slice d8 l8 c8], .agg #[.int .i64 a13, .bool n13, .slice d13 l13 c13]] W (fun e w' => ∃ z, e = .returned z ∧ NumZ 0 w' z (f * p) 2000 ∧ Up W w')) := fun W hW => by
             refine (l1MulN_any 0 _ _ f p 1000 1000 W (Nat.zero_le _) (HF8G.o.below hW) (HPG.o.below hW) (by decide) (by decide)).mono ?_; rintro e w' ⟨z, rfl, hz, hb⟩; refine ⟨z, rfl, numZ_lt hz ?_, hb⟩; rw [Int.natAbs_mul]; exact lb_mul 1000 1000 (numZ_val HF8G.o) (numZ_val HPG.o)
            have T16b : Hid (∀ W zp, Up WG W → NumZ 0 W zp (f * p) 2000 → Calls Tryz.prog 44 #[zp, .agg #[.int .i64 a14, .bool n14, .slice d14 l14 c14]] W (fun e w' => ∃ z, e = .returned z ∧ NumZ 0 w' z (f * p + q) 1000 ∧ Up W w')) := fun W zp hW hz => by
             refine (l1AddN_any 0 _ _ (f * p) q 2000 1000 W (Nat.zero_le _) hz (HQG.o.below hW) (by decide) (by decide)).mono ?_; rintro e w' ⟨z, rfl, hz, hb⟩; have hbd := HSIM.o.bound HE.o; exact ⟨z, rfl, numZ_lt hz (lb_le 282 1000 (by decide) (sim_lt HLB.o hbd.1 hbd.2.2.1)), hb⟩
            go_upto_region 16 with fail
            rw [HWG.o]
            go_wp2_with fail
            go_region_held3 (fun W => W.cell? ⟨gb, 0, none⟩ = some (.int .i64 a8) ∧ W.cell? ⟨gb, 1, none⟩ = some (.bool n8) ∧ W.cell? ⟨gb, 2, none⟩ = some (.slice d8 l8 c8) ∧ W.cell? ⟨wf.heap.size, 0, none⟩ = some (.int .i64 a13) ∧ W.cell? ⟨wf.heap.size, 1, none⟩ = some (.bool n13) ∧ W.cell? ⟨wf.heap.size, 2, none⟩ = some (.slice d13 l13 c13) ∧ W.cell? ⟨wf.heap.size, 3, none⟩ = some (.int .i64 a14) ∧ W.cell? ⟨wf.heap.size, 4, none⟩ = some (.bool n14) ∧ W.cell? ⟨wf.heap.size, 5, none⟩ = some (.slice d14 l14 c14)) (first
             | with_reducible assumption | with_reducible exact putS_9_6 (by with_reducible assumption) (w.heap.size + 1 + 1) (by dsimp only; omega) _ _ _ _ _ _ | go_keep) (first
             | (go_at_call 49
                refine (T16a.o _ ?_).mono ?_
                ·exact (Below.refl _ WG).drew
                rintro e wt1 ⟨u1, rfl, hu, hb⟩; have HU1 := Hd hu; have HQ1 : Hid (Up WG wt1) := (Below.refl _ WG).drew.trans hb; have hxa := HX8G.o.below HX8G.o.lt HQ1.o; have hxc := HXg.o wt1 HQ1.o; have hTwt1 := cc3_6 hxa hxc; clear hxa hxc; clear hu hb)
             | (go_at_call 44
                refine (T16b.o _ _ HQ1.o HU1.o).mono ?_; rintro e wm ⟨u2, rfl, hu, hb⟩; have HU2 := Hd hu; have HQM : Hid (Up WG wm) := HQ1.o.trans (hb.mono HQ1.o.size); obtain ⟨a15, n15, d15, l15, c15, rfl⟩ := hu.shape'; have hxa := HX8G.o.below HX8G.o.lt HQM.o; have hxc := HXg.o wm HQM.o; have hTwm := cc3_6 hxa hxc; clear hxa hxc; have hxr := (HX0.o wm (HAG.o.trans (HQM.o.mono HAG.o.size))).2.2; obtain ⟨r0, r1, r2, r3, r4, r5⟩ := hxr.c6; obtain ⟨rf0, rf1, rf2, rf3, rf4, rf5⟩ := hxr.f6; clear hu hb hxr))
            all_goals
             try simp only [List.getElem_toArray, List.getElem_cons_succ, List.getElem_cons_zero, Act.put, List.setIfInBounds_toArray, List.set_cons_succ, List.set_cons_zero]
             go_wp2
             have HA9 := HAG.o.trans (HQM.o.mono HAG.o.size); have hbw := (HX0.o wm HA9).2.2; have hnR : NoInt wm (w.heap.size + 1 + 1) := noInt_of hbw (by simp); have HKK := keepsC6 wm (w.heap.size + 1 + 1) (.int .i64 a15) (.bool n15) (.slice d15 l15 c15) (.int .i64 a13) (.bool n13) (.slice d13 l13 c13); have hD1 := HU2.o.keeps hnR hnR HKK; have hD2 := (HPG.o.below HQM.o).keeps hnR hnR HKK; have hB9 := bs6 (HB0.o.trans (HA9.mono HB0.o.size)) (w.heap.size + 1 + 1) (by omega) (.int .i64 a15) (.bool n15) (.slice d15 l15 c15) (.int .i64 a13) (.bool n13) (.slice d13 l13 c13); have hZ9 := hbw.s6 (.int .i64 a15) (.bool n15) (.slice d15 l15 c15) (.int .i64 a13) (.bool n13) (.slice d13 l13 c13); generalize (((((wm.setCell ⟨w.heap.size + 1 + 1, 0, none⟩ (.int .i64 a15)).setCell ⟨w.heap.size + 1 + 1, 1, none⟩ (.bool n15)).setCell ⟨w.heap.size + 1 + 1, 2, none⟩ (.slice d15 l15 c15)).setCell ⟨w.heap.size + 1 + 1, 3, none⟩ (.int .i64 a13)).setCell ⟨w.heap.size + 1 + 1, 4, none⟩ (.bool n13)).setCell ⟨w.heap.size + 1 + 1, 5, none⟩ (.slice d13 l13 c13) = W9 at *; obtain ⟨v0, v1, v2, v3, v4, v5⟩ := hZ9.c6; refine bodyPost_ret (v := .agg #[.int .i64 a15, .bool n15, .slice d15 l15 c15, .int .i64 a13, .bool n13, .slice d13 l13 c13]) ?_ rfl ⟨_, _, _, rfl, qn_mk hD1 hD2, HSIM.o, hB9⟩; simp [results, Tryz.results125, go_sem, v0, v1, v2, v3, v4, v5]
         ·rw [decide_eq_false hne]; have HNE := Hd hne; clear hne; obtain ⟨Wt, rfl⟩ : ∃ Wt, Wt = wv := ⟨_, rfl⟩; have HAT := HAV; have HX8T := HXV8; have HXUT := HXVu; have HF8T := HFVv; have HUE : Hid (IsES Wt (.agg #[.bool false, .bool false, .int .i64 0, .bool false, .slice none 0 0, .int .i64 0, .bool false, .slice none 0 0]) false false 0 0) := ⟨_, _, _, _, _, _, _, _, _, _, rfl, numZ_nil _, numZ_nil _⟩; have HUEN : Hid (Ends ho d (c - f * d) false false 0 0) := ⟨HST.o.2.2.2.b0, HST.o.2.2.2.a0, HST.o.2.2.2.g, HST.o.2.2.2.pos, fun h => by cases h⟩; have HUMS : Hid ((c - f * d + (if false = true then (0 : Int) else 0)).toNat ≤ N) := by
           unfold Hid
           have e0 := HBP.o; have e2 := HST.o.2.1; have e3 := HST.o.2.2.1; have e5 := HN.o; simp at e5 ⊢; omega
          have HUBD : Hid ((0 : Int).natAbs < lb 281 ∧ (0 : Int).natAbs < lb 281) := by
           have h1 : (0 : Int).natAbs < lb 281 := Nat.lt_of_lt_of_le (by decide) (Nat.le_of_lt (lb_one 281 (by decide))); exact ⟨h1, h1⟩
          have HUSI : Hid (∀ p q, Sim ho d (c - f * d) false false 0 0 p q → Sim ho d (c - f * d) (decide (a - f * b ≠ 0)) lo b (a - f * b) p q) := fun p q h => by
           rw [decide_eq_false HNE.o]
           rcases h.inv with ⟨_, rfl, rfl⟩ | ⟨h, _⟩
           ·exact Sim.found _ _ _ _ _ _ _ (.inl rfl)
           ·cases h
          have hzt : gb < Wt.heap.size := HX8T.o.lt; have hzu : wb.heap.size < Wt.heap.size := HXUT.o.lt; have hxb := (HX0.o Wt HAT.o).2.1; have hx8 := HX8T.o; obtain ⟨k0, k1, k2, k3, k4, k5, k6, k7⟩ := hxb.c8; obtain ⟨g0, g1, g2⟩ := hx8.c3; clear hxb hx8; have T14 : Hid (∀ W, Up Wt W → Calls Tryz.prog 158 #[.agg #[.int .i64 a3, .bool n3, .slice d3 l3 c3, .int .i64 a4, .bool n4, .slice d4 l4 c4], .agg #[.int .i64 a8, .bool n8, .slice d8 l8 c8]] W (fun e w' => ∃ z', e = .returned z' ∧ IsQN 0 w' z' d (c - f * d) ∧ Up W w')) := fun W hW => by
           have e1 := HST.o.2.1; have e2 := HST.o.2.2.1; have e3 := HLB.o.2.2.2; exact l2Turn_any _ _ c d f W (qn_mk (((H3.o.below HB0.o).below HAT.o).below hW) (((H4.o.below HB0.o).below HAT.o).below hW)) (HF8T.o.below hW) (lb_le 281 1000 (by decide) (by omega))
          go_upto_region 14 with fail
          go_cut [8] (fun q8 wx => ∃ (gd : Nat) (a11 : Int) (n11 : Bool) (d11 : Option Addr) (l11 c11 : Nat) (a12 : Int) (n12 : Bool) (d12 : Option Addr) (l12 c12 : Nat), q8 = .pointer (some ⟨gd, 0, none⟩) ∧ Wt.heap.size ≤ gd ∧ Bx wx gd [.bool true, .bool ho, .int .i64 a11, .bool n11, .slice d11 l11 c11, .int .i64 a12, .bool n12, .slice d12 l12 c12] ∧ NumZ 0 wx (.agg #[.int .i64 a11, .bool n11, .slice d11 l11 c11]) (d) 1000 ∧ NumZ 0 wx (.agg #[.int .i64 a12, .bool n12, .slice d12 l12 c12]) (c - f * d) 1000 ∧ Up Wt wx)
          case first =>
           go_wp2_with fail
           go_region_held3 (fun W => W.cell? ⟨w.heap.size + 1, 0, none⟩ = some (.bool true) ∧ W.cell? ⟨w.heap.size + 1, 1, none⟩ = some (.bool ho) ∧ W.cell? ⟨w.heap.size + 1, 2, none⟩ = some (.int .i64 a3) ∧ W.cell? ⟨w.heap.size + 1, 3, none⟩ = some (.bool n3) ∧ W.cell? ⟨w.heap.size + 1, 4, none⟩ = some (.slice d3 l3 c3) ∧ W.cell? ⟨w.heap.size + 1, 5, none⟩ = some (.int .i64 a4) ∧ W.cell? ⟨w.heap.size + 1, 6, none⟩ = some (.bool n4) ∧ W.cell? ⟨w.heap.size + 1, 7, none⟩ = some (.slice d4 l4 c4) ∧ W.cell? ⟨gb, 0, none⟩ = some (.int .i64 a8) ∧ W.cell? ⟨gb, 1, none⟩ = some (.bool n8) ∧ W.cell? ⟨gb, 2, none⟩ = some (.slice d8 l8 c8)) (first
            | with_reducible assumption | with_reducible exact putS_11_8 (by with_reducible assumption) _ (by dsimp only; omega) _ _ _ _ _ _ _ _ | go_keep) (first
            | (go_at_call 158
               refine (T14.o _ ?_).mono ?_
               ·repeat' (first | exact Below.refl _ _ | refine Below.drew ?_ | refine Below.alloc ?_ ?_ _ | assumption | (simp; done) | (simp; omega))
               rintro e wm ⟨u1, rfl, hu, hb⟩; obtain ⟨a11, n11, d11, l11, c11, a12, n12, d12, l12, c12, rfl, j1, j2⟩ := hu; have HU1 := Hd j1; have HU2 := Hd j2; have HQM : Hid (Up Wt wm) := by
                unfold Hid
                refine Below.trans ?_ (hb.mono ?_)
                ·repeat' (first | exact Below.refl _ _ | refine Below.drew ?_ | refine Below.alloc ?_ ?_ _ | assumption | (simp; done) | (simp; omega))
                ·simp
               have HK1 := Hd (fun (gg : Nat) (l : List Value) (hx : Bx _ gg l) => hx.below hx.lt hb); have hz1 := HQM.o.size
               try (have hnb : Bx wm Wt.heap.size [.bool false, .bool false, .int .i64 0, .bool false, .slice none 0 0, .int .i64 0, .bool false, .slice none 0 0] := by with_reducible exact HK1.o _ _ (bx_newD _ _ _))
               try (have n0' := hnb.cell 0; have nf0' := hnb.frozen 0; have n1' := hnb.cell 1; have nf1' := hnb.frozen 1; have n2' := hnb.cell 2; have nf2' := hnb.frozen 2; have n3' := hnb.cell 3; have nf3' := hnb.frozen 3; have n4' := hnb.cell 4; have nf4' := hnb.frozen 4; have n5' := hnb.cell 5; have nf5' := hnb.frozen 5; have n6' := hnb.cell 6; have nf6' := hnb.frozen 6; have n7' := hnb.cell 7; have nf7' := hnb.frozen 7; simp only [List.getElem?_cons_zero, List.getElem?_cons_succ] at n0' n1' n2' n3' n4' n5' n6' n7')
               try have HNC := Hd hnb
               try clear hnb
               have hxa := (HX0.o wm (HAT.o.trans (HQM.o.mono HAT.o.size))).2.1; have hxc := HX8T.o.below HX8T.o.lt HQM.o; have hSwm := cc8_3 hxa hxc; clear hxa hxc; clear j1 j2 hb))
           all_goals
            go_wp2_with fail
            go_meet
            first
             | (have hnb := HNC.o; exact ⟨_, a11, n11, d11, l11, c11, a12, n12, d12, l12, c12, rfl, leR, ((((((((hnb.set 0 (.bool true)).set 1 (.bool ho)).set 2 (.int .i64 a11)).set 3 (.bool n11)).set 4 (.slice d11 l11 c11)).set 5 (.int .i64 a12)).set 6 (.bool n12)).set 7 (.slice d12 l12 c12)), HU1.o.keeps (noInt_of hnb (by simp)) (noInt_of hnb (by simp)) (keepsC8 wm _ _ _ _ _ _ _ _ _), HU2.o.keeps (noInt_of hnb (by simp)) (noInt_of hnb (by simp)) (keepsC8 wm _ _ _ _ _ _ _ _ _), ((((((((HQM.o.setCell (p := ⟨Wt.heap.size, 0, none⟩) (by dsimp only; omega) (.bool true)).setCell (p := ⟨Wt.heap.size, 1, none⟩) (by dsimp only; omega) (.bool ho)).setCell (p := ⟨Wt.heap.size, 2, none⟩) (by dsimp only; omega) (.int .i64 a11)).setCell (p := ⟨Wt.heap.size, 3, none⟩) (by dsimp only; omega) (.bool n11)).setCell (p := ⟨Wt.heap.size, 4, none⟩) (by dsimp only; omega) (.slice d11 l11 c11)).setCell (p := ⟨Wt.heap.size, 5, none⟩) (by dsimp only; omega) (.int .i64 a12)).setCell (p := ⟨Wt.heap.size, 6, none⟩) (by dsimp only; omega) (.bool n12)).setCell (p := ⟨Wt.heap.size, 7, none⟩) (by dsimp only; omega) (.slice d12 l12 c12))⟩)
             | exact ⟨wm.heap.size, a11, n11, d11, l11, c11, a12, n12, d12, l12, c12, rfl, hz1, bx_new wm _ _, HU1.o.below (below_alloc _ _), HU2.o.below (below_alloc _ _), HQM.o.alloc HQM.o.size _⟩
          case rest =>
           obtain ⟨gd, a11, n11, d11, l11, c11, a12, n12, d12, l12, c12, rfl, hgd, hbx, hz11, hz12, hbc⟩ := hcut; obtain ⟨we, rfl⟩ : ∃ we, we = wc := ⟨_, rfl⟩; have HAE : Hid (Up W0 we) := HAT.o.trans (hbc.mono HAT.o.size); have HX8E := Hd (HX8T.o.below HX8T.o.lt hbc); have HXUE := Hd (HXUT.o.below HXUT.o.lt hbc); have HF8E := Hd (HF8T.o.below hbc); have HUEE := Hd (HUE.o.below hbc); have HDN : Hid (IsES we (.agg #[.bool true, .bool ho, .int .i64 a11, .bool n11, .slice d11 l11 c11, .int .i64 a12, .bool n12, .slice d12 l12 c12]) true ho d (c - f * d)) := ⟨_, _, _, _, _, _, _, _, _, _, rfl, hz11, hz12⟩; clear hbc hz11 hz12 k0 k1 k2 k3 k4 k5 k6 k7 g0 g1 g2; have hxu := HXUE.o; obtain ⟨k0, k1, k2, k3, k4, k5, k6, k7⟩ := hbx.c8; obtain ⟨j0, j1, j2, j3, j4, j5, j6, j7⟩ := hxu.c8; clear hbx hxu
           go_wp2_with fail
           refine (IH.o ho d (c - f * d) false false 0 0 _ _ we HUMS.o HDN.o HUEE.o HUEN.o ⟨HLB.o.2.2.2, (by have e1 := HST.o.2.1; have e2 := HST.o.2.2.1; have e3 := HLB.o.2.2.2; omega), HUBD.o.1, HUBD.o.2⟩).mono ?_; rintro e wf ⟨z, p, q, rfl, hq, hsim, hbf⟩; obtain ⟨a13, n13, d13, l13, c13, a14, n14, d14, l14, c14, rfl, y1, y2⟩ := hq; have HP := Hd y1; have HQ := Hd y2; have HSI := Hd (HUSI.o p q hsim); have HAF : Hid (Up W0 wf) := HAE.o.trans (hbf.mono HAE.o.size); have HX8F := Hd (HX8E.o.below HX8E.o.lt hbf); have HF8F := Hd (HF8E.o.below hbf); have hzf : gb < wf.heap.size := HX8F.o.lt; have hz0 : w.heap.size + 2 < wf.heap.size := by have := HAF.o.size; have := HS0.o; omega
           clear y1 y2 hsim hbf k0 j0 k1 j1 k2 j2 k3 j3 k4 j4 k5 j5 k6 j6 k7 j7; obtain ⟨WG, hWG⟩ := exW (wf.alloc (.cells #[.int .i64 a13, .bool n13, .slice d13 l13 c13, .int .i64 a14, .bool n14, .slice d14 l14 c14] 70)); have HWG := Hd hWG; have HBg : Hid (Up wf WG) := by unfold Hid; rw [← hWG]; exact below_alloc _ _
           have HSg : Hid (WG.heap.size = wf.heap.size + 1) := by show WG.heap.size = _; rw [← hWG]; simp
           have hxg_0 : Bx WG (wf.heap.size) [.int .i64 a13, .bool n13, .slice d13 l13 c13, .int .i64 a14, .bool n14, .slice d14 l14 c14] := by
            rw [← hWG]; exact bx_new wf _ _
           have HXg : Hid (∀ W, Up WG W → Bx W (wf.heap.size) [.int .i64 a13, .bool n13, .slice d13 l13 c13, .int .i64 a14, .bool n14, .slice d14 l14 c14]) := fun W hW => hxg_0.below hxg_0.lt hW; obtain ⟨x0, x1, x2, x3, x4, x5⟩ := hxg_0.c6; clear hWG hxg_0; have HAG : Hid (Up W0 WG) := HAF.o.trans (HBg.o.mono HAF.o.size); have HX8G := Hd (HX8F.o.below HX8F.o.lt HBg.o); have HF8G := Hd (HF8F.o.below HBg.o); have HPG := Hd (HP.o.below HBg.o); have HQG := Hd (HQ.o.below HBg.o); have hx8 := HX8G.o; obtain ⟨g0, g1, g2⟩ := hx8.c3; clear hx8; have HSIM : Hid (Sim lo a b true ho c d (f * p + q) p) := by
            unfold Hid
            have h9 := HSI.o; rw [HFV.o] at h9 ⊢; exact Sim.step lo a b ho c d p q (fun h => HFD.o (.inr h)) h9
           have T16a : Hid (∀ W, Up WG W → Calls Tryz.prog 49 #[.agg #[.int .i64 a8, .bool n8, .slice d8 l8 c8], .agg #[.int .i64 a13, .bool n13, .slice d13 l13 c13]] W (fun e w' => ∃ z, e = .returned z ∧ NumZ 0 w' z (f * p) 2000 ∧ Up W w')) := fun W hW => by
            refine (l1MulN_any 0 _ _ f p 1000 1000 W (Nat.zero_le _) (HF8G.o.below hW) (HPG.o.below hW) (by decide) (by decide)).mono ?_; rintro e w' ⟨z, rfl, hz, hb⟩; refine ⟨z, rfl, numZ_lt hz ?_, hb⟩; rw [Int.natAbs_mul]; exact lb_mul 1000 1000 (numZ_val HF8G.o) (numZ_val HPG.o)
           have T16b : Hid (∀ W zp, Up WG W → NumZ 0 W zp (f * p) 2000 → Calls Tryz.prog 44 #[zp, .agg #[.int .i64 a14, .bool n14, .slice d14 l14 c14]] W (fun e w' => ∃ z, e = .returned z ∧ NumZ 0 w' z (f * p + q) 1000 ∧ Up W w')) := fun W zp hW hz => by
            refine (l1AddN_any 0 _ _ (f * p) q 2000 1000 W (Nat.zero_le _) hz (HQG.o.below hW) (by decide) (by decide)).mono ?_; rintro e w' ⟨z, rfl, hz, hb⟩; have hbd := HSIM.o.bound HE.o; exact ⟨z, rfl, numZ_lt hz (lb_le 282 1000 (by decide) (sim_lt HLB.o hbd.1 hbd.2.2.1)), hb⟩
           go_upto_region 16 with fail
           rw [HWG.o]
           go_wp2_with fail
           go_region_held3 (fun W => W.cell? ⟨gb, 0, none⟩ = some (.int .i64 a8) ∧ W.cell? ⟨gb, 1, none⟩ = some (.bool n8) ∧ W.cell? ⟨gb, 2, none⟩ = some (.slice d8 l8 c8) ∧ W.cell? ⟨wf.heap.size, 0, none⟩ = some (.int .i64 a13) ∧ W.cell? ⟨wf.heap.size, 1, none⟩ = some (.bool n13) ∧ W.cell? ⟨wf.heap.size, 2, none⟩ = some (.slice d13 l13 c13) ∧ W.cell? ⟨wf.heap.size, 3, none⟩ = some (.int .i64 a14) ∧ W.cell? ⟨wf.heap.size, 4, none⟩ = some (.bool n14) ∧ W.cell? ⟨wf.heap.size, 5, none⟩ = some (.slice d14 l14 c14)) (first
            | with_reducible assumption | with_reducible exact putS_9_6 (by with_reducible assumption) (w.heap.size + 1 + 1) (by dsimp only; omega) _ _ _ _ _ _ | go_keep) (first
            | (go_at_call 49
               refine (T16a.o _ ?_).mono ?_
               ·exact (Below.refl _ WG).drew
               rintro e wt1 ⟨u1, rfl, hu, hb⟩; have HU1 := Hd hu; have HQ1 : Hid (Up WG wt1) := (Below.refl _ WG).drew.trans hb; have hxa := HX8G.o.below HX8G.o.lt HQ1.o; have hxc := HXg.o wt1 HQ1.o; have hTwt1 := cc3_6 hxa hxc; clear hxa hxc; clear hu hb)
            | (go_at_call 44
               refine (T16b.o _ _ HQ1.o HU1.o).mono ?_; rintro e wm ⟨u2, rfl, hu, hb⟩; have HU2 := Hd hu; have HQM : Hid (Up WG wm) := HQ1.o.trans (hb.mono HQ1.o.size); obtain ⟨a15, n15, d15, l15, c15, rfl⟩ := hu.shape'; have hxa := HX8G.o.below HX8G.o.lt HQM.o; have hxc := HXg.o wm HQM.o; have hTwm := cc3_6 hxa hxc; clear hxa hxc; have hxr := (HX0.o wm (HAG.o.trans (HQM.o.mono HAG.o.size))).2.2; obtain ⟨r0, r1, r2, r3, r4, r5⟩ := hxr.c6; obtain ⟨rf0, rf1, rf2, rf3, rf4, rf5⟩ := hxr.f6; clear hu hb hxr))
           all_goals
            try simp only [List.getElem_toArray, List.getElem_cons_succ, List.getElem_cons_zero, Act.put, List.setIfInBounds_toArray, List.set_cons_succ, List.set_cons_zero]
            go_wp2
            have HA9 := HAG.o.trans (HQM.o.mono HAG.o.size); have hbw := (HX0.o wm HA9).2.2; have hnR : NoInt wm (w.heap.size + 1 + 1) := noInt_of hbw (by simp); have HKK := keepsC6 wm (w.heap.size + 1 + 1) (.int .i64 a15) (.bool n15) (.slice d15 l15 c15) (.int .i64 a13) (.bool n13) (.slice d13 l13 c13); have hD1 := HU2.o.keeps hnR hnR HKK; have hD2 := (HPG.o.below HQM.o).keeps hnR hnR HKK; have hB9 := bs6 (HB0.o.trans (HA9.mono HB0.o.size)) (w.heap.size + 1 + 1) (by omega) (.int .i64 a15) (.bool n15) (.slice d15 l15 c15) (.int .i64 a13) (.bool n13) (.slice d13 l13 c13); have hZ9 := hbw.s6 (.int .i64 a15) (.bool n15) (.slice d15 l15 c15) (.int .i64 a13) (.bool n13) (.slice d13 l13 c13); generalize (((((wm.setCell ⟨w.heap.size + 1 + 1, 0, none⟩ (.int .i64 a15)).setCell ⟨w.heap.size + 1 + 1, 1, none⟩ (.bool n15)).setCell ⟨w.heap.size + 1 + 1, 2, none⟩ (.slice d15 l15 c15)).setCell ⟨w.heap.size + 1 + 1, 3, none⟩ (.int .i64 a13)).setCell ⟨w.heap.size + 1 + 1, 4, none⟩ (.bool n13)).setCell ⟨w.heap.size + 1 + 1, 5, none⟩ (.slice d13 l13 c13) = W9 at *; obtain ⟨v0, v1, v2, v3, v4, v5⟩ := hZ9.c6; refine bodyPost_ret (v := .agg #[.int .i64 a15, .bool n15, .slice d15 l15 c15, .int .i64 a13, .bool n13, .slice d13 l13 c13]) ?_ rfl ⟨_, _, _, rfl, qn_mk hD1 hD2, HSIM.o, hB9⟩; simp [results, Tryz.results125, go_sem, v0, v1, v2, v3, v4, v5]
theorem low_ord (o1 : Bool) (x1 : Int) : (!lowOut true o1 x1) = (decide (ordI x1 0 < 0) || (decide (ordI x1 0 = 0) && !o1)) := by
 unfold lowOut ordI
 rcases Int.lt_trichotomy x1 0 with h | h | h
 ·rw [if_pos h]; have a : ¬ 0 < x1 := by omega
  have b : x1 ≠ 0 := by omega
  simp [a, b]
 ·subst h; cases o1 <;> simp
 rw [if_neg (by omega), if_pos h]; simp [h]
theorem high_ord (o2 : Bool) (x2 : Int) : (!highOut true o2 x2) = (decide (0 < ordI x2 0) || (decide (ordI x2 0 = 0) && !o2)) := by
 unfold highOut ordI
 rcases Int.lt_trichotomy x2 0 with h | h | h
 ·rw [if_pos h]; simp [h]
 ·subst h; cases o2 <;> simp
 rw [if_neg (by omega), if_pos h]; have a : ¬ x2 < 0 := by omega
 have b : x2 ≠ 0 := by omega
 simp [a, b]
theorem putS_16_6 {W : World} {a0 a1 a2 a3 a4 a5 a6 a7 a8 a9 a10 a11 a12 a13 a14 a15 : Addr} {v0 v1 v2 v3 v4 v5 v6 v7 v8 v9 v10 v11 v12 v13 v14 v15 : Value} (m : W.cell? a0 = some v0 ∧ W.cell? a1 = some v1 ∧ W.cell? a2 = some v2 ∧ W.cell? a3 = some v3 ∧ W.cell? a4 = some v4 ∧ W.cell? a5 = some v5 ∧ W.cell? a6 = some v6 ∧ W.cell? a7 = some v7 ∧ W.cell? a8 = some v8 ∧ W.cell? a9 = some v9 ∧ W.cell? a10 = some v10 ∧ W.cell? a11 = some v11 ∧ W.cell? a12 = some v12 ∧ W.cell? a13 = some v13 ∧ W.cell? a14 = some v14 ∧ W.cell? a15 = some v15) (g : Nat) (h : g ≠ a0.block ∧ g ≠ a1.block ∧ g ≠ a2.block ∧ g ≠ a3.block ∧ g ≠ a4.block ∧ g ≠ a5.block ∧ g ≠ a6.block ∧ g ≠ a7.block ∧ g ≠ a8.block ∧ g ≠ a9.block ∧ g ≠ a10.block ∧ g ≠ a11.block ∧ g ≠ a12.block ∧ g ≠ a13.block ∧ g ≠ a14.block ∧ g ≠ a15.block) (u0 u1 u2 u3 u4 u5 : Value) : ((((((W.setCell ⟨g, 0, none⟩ (u0)).setCell ⟨g, 1, none⟩ (u1)).setCell ⟨g, 2, none⟩ (u2)).setCell ⟨g, 3, none⟩ (u3)).setCell ⟨g, 4, none⟩ (u4)).setCell ⟨g, 5, none⟩ (u5)).cell? a0 = some v0 ∧ ((((((W.setCell ⟨g, 0, none⟩ (u0)).setCell ⟨g, 1, none⟩ (u1)).setCell ⟨g, 2, none⟩ (u2)).setCell ⟨g, 3, none⟩ (u3)).setCell ⟨g, 4, none⟩ (u4)).setCell ⟨g, 5, none⟩ (u5)).cell? a1 = some v1 ∧ ((((((W.setCell ⟨g, 0, none⟩ (u0)).setCell ⟨g, 1, none⟩ (u1)).setCell ⟨g, 2, none⟩ (u2)).setCell ⟨g, 3, none⟩ (u3)).setCell ⟨g, 4, none⟩ (u4)).setCell ⟨g, 5, none⟩ (u5)).cell? a2 = some v2 ∧ ((((((W.setCell ⟨g, 0, none⟩ (u0)).setCell ⟨g, 1, none⟩ (u1)).setCell ⟨g, 2, none⟩ (u2)).setCell ⟨g, 3, none⟩ (u3)).setCell ⟨g, 4, none⟩ (u4)).setCell ⟨g, 5, none⟩ (u5)).cell? a3 = some v3 ∧ ((((((W.setCell ⟨g, 0, none⟩ (u0)).setCell ⟨g, 1, none⟩ (u1)).setCell ⟨g, 2, none⟩ (u2)).setCell ⟨g, 3, none⟩ (u3)).setCell ⟨g, 4, none⟩ (u4)).setCell ⟨g, 5, none⟩ (u5)).cell? a4 = some v4 ∧ ((((((W.setCell ⟨g, 0, none⟩ (u0)).setCell ⟨g, 1, none⟩ (u1)).setCell ⟨g, 2, none⟩ (u2)).setCell ⟨g, 3, none⟩ (u3)).setCell ⟨g, 4, none⟩ (u4)).setCell ⟨g, 5, none⟩ (u5)).cell? a5 = some v5 ∧ ((((((W.setCell ⟨g, 0, none⟩ (u0)).setCell ⟨g, 1, none⟩ (u1)).setCell ⟨g, 2, none⟩ (u2)).setCell ⟨g, 3, none⟩ (u3)).setCell ⟨g, 4, none⟩ (u4)).setCell ⟨g, 5, none⟩ (u5)).cell? a6 = some v6 ∧ ((((((W.setCell ⟨g, 0, none⟩ (u0)).setCell ⟨g, 1, none⟩ (u1)).setCell ⟨g, 2, none⟩ (u2)).setCell ⟨g, 3, none⟩ (u3)).setCell ⟨g, 4, none⟩ (u4)).setCell ⟨g, 5, none⟩ (u5)).cell? a7 = some v7 ∧ ((((((W.setCell ⟨g, 0, none⟩ (u0)).setCell ⟨g, 1, none⟩ (u1)).setCell ⟨g, 2, none⟩ (u2)).setCell ⟨g, 3, none⟩ (u3)).setCell ⟨g, 4, none⟩ (u4)).setCell ⟨g, 5, none⟩ (u5)).cell? a8 = some v8 ∧ ((((((W.setCell ⟨g, 0, none⟩ (u0)).setCell ⟨g, 1, none⟩ (u1)).setCell ⟨g, 2, none⟩ (u2)).setCell ⟨g, 3, none⟩ (u3)).setCell ⟨g, 4, none⟩ (u4)).setCell ⟨g, 5, none⟩ (u5)).cell? a9 = some v9 ∧ ((((((W.setCell ⟨g, 0, none⟩ (u0)).setCell ⟨g, 1, none⟩ (u1)).setCell ⟨g, 2, none⟩ (u2)).setCell ⟨g, 3, none⟩ (u3)).setCell ⟨g, 4, none⟩ (u4)).setCell ⟨g, 5, none⟩ (u5)).cell? a10 = some v10 ∧ ((((((W.setCell ⟨g, 0, none⟩ (u0)).setCell ⟨g, 1, none⟩ (u1)).setCell ⟨g, 2, none⟩ (u2)).setCell ⟨g, 3, none⟩ (u3)).setCell ⟨g, 4, none⟩ (u4)).setCell ⟨g, 5, none⟩ (u5)).cell? a11 = some v11 ∧ ((((((W.setCell ⟨g, 0, none⟩ (u0)).setCell ⟨g, 1, none⟩ (u1)).setCell ⟨g, 2, none⟩ (u2)).setCell ⟨g, 3, none⟩ (u3)).setCell ⟨g, 4, none⟩ (u4)).setCell ⟨g, 5, none⟩ (u5)).cell? a12 = some v12 ∧ ((((((W.setCell ⟨g, 0, none⟩ (u0)).setCell ⟨g, 1, none⟩ (u1)).setCell ⟨g, 2, none⟩ (u2)).setCell ⟨g, 3, none⟩ (u3)).setCell ⟨g, 4, none⟩ (u4)).setCell ⟨g, 5, none⟩ (u5)).cell? a13 = some v13 ∧ ((((((W.setCell ⟨g, 0, none⟩ (u0)).setCell ⟨g, 1, none⟩ (u1)).setCell ⟨g, 2, none⟩ (u2)).setCell ⟨g, 3, none⟩ (u3)).setCell ⟨g, 4, none⟩ (u4)).setCell ⟨g, 5, none⟩ (u5)).cell? a14 = some v14 ∧ ((((((W.setCell ⟨g, 0, none⟩ (u0)).setCell ⟨g, 1, none⟩ (u1)).setCell ⟨g, 2, none⟩ (u2)).setCell ⟨g, 3, none⟩ (u3)).setCell ⟨g, 4, none⟩ (u4)).setCell ⟨g, 5, none⟩ (u5)).cell? a15 = some v15 :=
 ⟨cell_farC6 g m.1 h.1 _ _ _ _ _ _, cell_farC6 g m.2.1 h.2.1 _ _ _ _ _ _, cell_farC6 g m.2.2.1 h.2.2.1 _ _ _ _ _ _, cell_farC6 g m.2.2.2.1 h.2.2.2.1 _ _ _ _ _ _, cell_farC6 g m.2.2.2.2.1 h.2.2.2.2.1 _ _ _ _ _ _, cell_farC6 g m.2.2.2.2.2.1 h.2.2.2.2.2.1 _ _ _ _ _ _, cell_farC6 g m.2.2.2.2.2.2.1 h.2.2.2.2.2.2.1 _ _ _ _ _ _, cell_farC6 g m.2.2.2.2.2.2.2.1 h.2.2.2.2.2.2.2.1 _ _ _ _ _ _, cell_farC6 g m.2.2.2.2.2.2.2.2.1 h.2.2.2.2.2.2.2.2.1 _ _ _ _ _ _, cell_farC6 g m.2.2.2.2.2.2.2.2.2.1 h.2.2.2.2.2.2.2.2.2.1 _ _ _ _ _ _, cell_farC6 g m.2.2.2.2.2.2.2.2.2.2.1 h.2.2.2.2.2.2.2.2.2.2.1 _ _ _ _ _ _, cell_farC6 g m.2.2.2.2.2.2.2.2.2.2.2.1 h.2.2.2.2.2.2.2.2.2.2.2.1 _ _ _ _ _ _, cell_farC6 g m.2.2.2.2.2.2.2.2.2.2.2.2.1 h.2.2.2.2.2.2.2.2.2.2.2.2.1 _ _ _ _ _ _, cell_farC6 g m.2.2.2.2.2.2.2.2.2.2.2.2.2.1 h.2.2.2.2.2.2.2.2.2.2.2.2.2.1 _ _ _ _ _ _, cell_farC6 g m.2.2.2.2.2.2.2.2.2.2.2.2.2.2.1 h.2.2.2.2.2.2.2.2.2.2.2.2.2.2.1 _ _ _ _ _ _, cell_farC6 g m.2.2.2.2.2.2.2.2.2.2.2.2.2.2.2 h.2.2.2.2.2.2.2.2.2.2.2.2.2.2.2 _ _ _ _ _ _⟩
set_option maxRecDepth 100000 in
set_option maxHeartbeats 8000000 in
theorem l2Best_any (zl zh : Value) (h1 o1 : Bool) (x1 y1 : Int) (h2 o2 : Bool) (x2 y2 : Int) (w : World) (hl : IsES w zl h1 o1 x1 y1) (hh : IsES w zh h2 o2 x2 y2) (t : Two h1 o1 x1 y1 h2 o2 x2 y2)
 (hb : x1.natAbs < lb 281 ∧ y1.natAbs < lb 281 ∧ x2.natAbs < lb 281 ∧ y2.natAbs < lb 281) :
 Calls Tryz.prog 73 #[zl, zh] w fun e w' => ∃ z p q, e = .returned z ∧ IsQN 0 w' z p q ∧ Best h1 o1 x1 y1 h2 o2 x2 y2 p q ∧ Up w w' := by
 obtain ⟨a1, n1, d1, l1, c1, a2, n2, d2, l2, c2, rfl, i1, i2⟩ := hl; obtain ⟨a3, n3, d3, l3, c3, a4, n4, d4, l4, c4, rfl, i3, i4⟩ := hh; have H1 := Hd i1; have H2 := Hd i2; have H3 := Hd i3; have H4 := Hd i4; have HT := Hd t; have HLB := Hd hb; clear i1 i2 i3 i4 t hb; obtain ⟨W0, hW0⟩ := exW (((w.alloc (.cells #[.bool h1, .bool o1, .int .i64 a1, .bool n1, .slice d1 l1 c1, .int .i64 a2, .bool n2, .slice d2 l2 c2] 88)).alloc (.cells #[.bool h2, .bool o2, .int .i64 a3, .bool n3, .slice d3 l3 c3, .int .i64 a4, .bool n4, .slice d4 l4 c4] 88)).alloc (.cells #[.int .i64 0, .bool false, .slice none 0 0, .int .i64 0, .bool false, .slice none 0 0] 70)); have HW0 := Hd hW0; have HB0 : Hid (Up w W0) := by unfold Hid; rw [← hW0]; exact below_al (below_al (below_alloc _ _) _) _
 have HS0 : Hid (W0.heap.size = w.heap.size + 3) := by show W0.heap.size = _; rw [← hW0]; simp
 have hx0_0 : Bx W0 (w.heap.size) [.bool h1, .bool o1, .int .i64 a1, .bool n1, .slice d1 l1 c1, .int .i64 a2, .bool n2, .slice d2 l2 c2] := by
  rw [← hW0]; exact ((bx_new w _ _).alloc _).alloc _
 have hx0_1 : Bx W0 (w.heap.size + 1) [.bool h2, .bool o2, .int .i64 a3, .bool n3, .slice d3 l3 c3, .int .i64 a4, .bool n4, .slice d4 l4 c4] := by
  rw [← hW0]; have h := bx_new (w.alloc (.cells #[.bool h1, .bool o1, .int .i64 a1, .bool n1, .slice d1 l1 c1, .int .i64 a2, .bool n2, .slice d2 l2 c2] 88)) [.bool h2, .bool o2, .int .i64 a3, .bool n3, .slice d3 l3 c3, .int .i64 a4, .bool n4, .slice d4 l4 c4] 88; rw [World.size_alloc] at h; exact (h).alloc _
 have hx0_2 : Bx W0 (w.heap.size + 1 + 1) [.int .i64 0, .bool false, .slice none 0 0, .int .i64 0, .bool false, .slice none 0 0] := by
  rw [← hW0]; have h := bx_new ((w.alloc (.cells #[.bool h1, .bool o1, .int .i64 a1, .bool n1, .slice d1 l1 c1, .int .i64 a2, .bool n2, .slice d2 l2 c2] 88)).alloc (.cells #[.bool h2, .bool o2, .int .i64 a3, .bool n3, .slice d3 l3 c3, .int .i64 a4, .bool n4, .slice d4 l4 c4] 88)) [.int .i64 0, .bool false, .slice none 0 0, .int .i64 0, .bool false, .slice none 0 0] 70; rw [World.size_alloc, World.size_alloc] at h; exact h
 have HX0 : Hid (∀ W, Up W0 W → Bx W (w.heap.size) [.bool h1, .bool o1, .int .i64 a1, .bool n1, .slice d1 l1 c1, .int .i64 a2, .bool n2, .slice d2 l2 c2] ∧ Bx W (w.heap.size + 1) [.bool h2, .bool o2, .int .i64 a3, .bool n3, .slice d3 l3 c3, .int .i64 a4, .bool n4, .slice d4 l4 c4] ∧ Bx W (w.heap.size + 1 + 1) [.int .i64 0, .bool false, .slice none 0 0, .int .i64 0, .bool false, .slice none 0 0]) := fun W hW => ⟨hx0_0.below hx0_0.lt hW, hx0_1.below hx0_1.lt hW, hx0_2.below hx0_2.lt hW⟩; obtain ⟨k0, k1, k2, k3, k4, k5, k6, k7⟩ := hx0_0.c8; clear hW0 hx0_0 hx0_1 hx0_2
 go_enter Tryz.func73, Tryz.ntmps73
 go_upto_region 1 with fail
 rw [HW0.o]
 go_cut [5, 42] (fun q5 q42 wx => q5 = .bool (!lowOut h1 o1 x1) ∧ q42 = undef ∧ Up W0 wx)
 case first =>
  have HXS : Hid (∀ W, Up W0 W → Bx W w.heap.size [.bool h1, .bool o1, .int .i64 a1, .bool n1, .slice d1 l1 c1, .int .i64 a2, .bool n2, .slice d2 l2 c2]) := fun W hW => (HX0.o W hW).1; cases h1
  ·go_wp2_with fail
   go_meet
   exact ⟨rfl, rfl, Below.refl _ _⟩
  ·have TS : Hid (∀ W, Up W0 W → Calls Tryz.prog 124 #[.agg #[.int .i64 a1, .bool n1, .slice d1 l1 c1, .int .i64 a2, .bool n2, .slice d2 l2 c2]] W (fun e w' => e = .returned (.int .i64 (ordI x1 0)) ∧ Up W w')) := fun W hW => l2Sign_any _ x1 y1 W (qn_mk ((H1.o.below HB0.o).below hW) ((H2.o.below HB0.o).below hW)); have HO : Hid ((!lowOut true o1 x1) = (decide (ordI x1 0 < 0) || (decide (ordI x1 0 = 0) && !o1))) := low_ord o1 x1; have h3 := ordI_three x1 0; obtain ⟨r, hr⟩ := exW (ordI x1 0); rw [hr] at h3 HO TS; clear hr
   rcases h3 with rfl | rfl | rfl
   all_goals
    go_wp2_with fail
    refine (TS.o _ (Below.refl _ _)).mono ?_; rintro e wx ⟨rfl, hbx⟩; have HBX := Hd hbx; have hxq := HXS.o wx hbx; obtain ⟨q0, q1, q2, q3, q4, q5, q6, q7⟩ := hxq.c8; clear hbx hxq
    go_wp2_with fail
    try (refine (TS.o _ HBX.o).mono ?_; rintro e wy ⟨rfl, hby⟩; have HBY : Hid (Up W0 wy) := HBX.o.trans (hby.mono HBX.o.size); have hxq := HXS.o wy HBY.o; have s0 := hxq.cell 0; have s1 := hxq.cell 1; have s2 := hxq.cell 2; have s3 := hxq.cell 3; have s4 := hxq.cell 4; have s5 := hxq.cell 5; have s6 := hxq.cell 6; have s7 := hxq.cell 7; simp only [List.getElem?_cons_zero, List.getElem?_cons_succ] at s0 s1 s2 s3 s4 s5 s6 s7; clear hby hxq; go_wp2_with fail)
    go_meet
    first
     | exact ⟨by rw [HO.o]; rfl, rfl, HBY.o⟩
     | exact ⟨by rw [HO.o]; rfl, rfl, HBX.o⟩
     | exact ⟨by rw [HO.o]; simp, rfl, HBY.o⟩
 case rest =>
  obtain ⟨rfl, rfl, hbc⟩ := hcut; obtain ⟨wa, rfl⟩ : ∃ wa, wa = wc := ⟨_, rfl⟩; have HA1 := Hd hbc; have HE1 : Hid (Up w wa) := HB0.o.trans (hbc.mono HB0.o.size); clear hbc k0 k1 k2 k3 k4 k5 k6 k7; have hxb := (HX0.o wa HA1.o).2.1; obtain ⟨k0, k1, k2, k3, k4, k5, k6, k7⟩ := hxb.c8; clear hxb
  go_upto_region 2 with fail
  go_cut [6] (fun q6 wx => q6 = .bool (!highOut h2 o2 x2) ∧ Up wa wx)
  case first =>
   have HXS : Hid (∀ W, Up wa W → Bx W (w.heap.size + 1) [.bool h2, .bool o2, .int .i64 a3, .bool n3, .slice d3 l3 c3, .int .i64 a4, .bool n4, .slice d4 l4 c4]) := fun W hW => (HX0.o W (HA1.o.trans (hW.mono HA1.o.size))).2.1; cases h2
   ·go_wp2_with fail
    go_meet
    exact ⟨rfl, Below.refl _ _⟩
   ·have TS : Hid (∀ W, Up wa W → Calls Tryz.prog 124 #[.agg #[.int .i64 a3, .bool n3, .slice d3 l3 c3, .int .i64 a4, .bool n4, .slice d4 l4 c4]] W (fun e w' => e = .returned (.int .i64 (ordI x2 0)) ∧ Up W w')) := fun W hW => l2Sign_any _ x2 y2 W (qn_mk ((H3.o.below HE1.o).below hW) ((H4.o.below HE1.o).below hW)); have HO : Hid ((!highOut true o2 x2) = (decide (0 < ordI x2 0) || (decide (ordI x2 0 = 0) && !o2))) := high_ord o2 x2; have h3 := ordI_three x2 0; obtain ⟨r, hr⟩ := exW (ordI x2 0); rw [hr] at h3 HO TS; clear hr
    rcases h3 with rfl | rfl | rfl
    all_goals
     go_wp2_with fail
     refine (TS.o _ (Below.refl _ _)).mono ?_; rintro e wx ⟨rfl, hbx⟩; have HBX := Hd hbx; have hxq := HXS.o wx hbx; obtain ⟨q0, q1, q2, q3, q4, q5, q6, q7⟩ := hxq.c8; clear hbx hxq
     go_wp2_with fail
     try (refine (TS.o _ HBX.o).mono ?_; rintro e wy ⟨rfl, hby⟩; have HBY : Hid (Up wa wy) := HBX.o.trans (hby.mono HBX.o.size); have hxq := HXS.o wy HBY.o; have s0 := hxq.cell 0; have s1 := hxq.cell 1; have s2 := hxq.cell 2; have s3 := hxq.cell 3; have s4 := hxq.cell 4; have s5 := hxq.cell 5; have s6 := hxq.cell 6; have s7 := hxq.cell 7; simp only [List.getElem?_cons_zero, List.getElem?_cons_succ] at s0 s1 s2 s3 s4 s5 s6 s7; clear hby hxq; go_wp2_with fail)
     go_meet
     first
      | exact ⟨by rw [HO.o]; rfl, HBY.o⟩
      | exact ⟨by rw [HO.o]; rfl, HBX.o⟩
      | exact ⟨by rw [HO.o]; simp, HBY.o⟩
  case rest =>
   obtain ⟨rfl, hbc⟩ := hcut; obtain ⟨wb, rfl⟩ : ∃ wb, wb = wc := ⟨_, rfl⟩; have HA2 : Hid (Up W0 wb) := HA1.o.trans (hbc.mono HA1.o.size); have HE2 : Hid (Up w wb) := HB0.o.trans (HA2.o.mono HB0.o.size); clear hbc k0 k1 k2 k3 k4 k5 k6 k7; have hxb := HX0.o wb HA2.o; have hk0 := hxb.1; have hk1 := hxb.2.1; obtain ⟨k0, k1, k2, k3, k4, k5, k6, k7⟩ := hk0.c8; obtain ⟨j0, j1, j2, j3, j4, j5, j6, j7⟩ := hk1.c8; clear hxb hk0 hk1
   cases hlo : lowOut h1 o1 x1
   ·cases hho : highOut h2 o2 x2
    ·have HBE : Hid (Best h1 o1 x1 y1 h2 o2 x2 y2 0 1) := by
      unfold Hid
      unfold Best; rw [if_neg (by rw [hlo]; decide), if_neg (by rw [hho]; decide)]; exact ⟨rfl, rfl⟩
     clear hlo hho
     go_wp2_with fail
     refine (l2IntZ_any _).mono ?_; rintro e w3 ⟨z, rfl, hz, hb3⟩; obtain ⟨a5, n5, d5, l5, c5, a6, n6, d6, l6, c6, rfl, y1z, y2z⟩ := hz; have HR1 := Hd y1z; have HR2 := Hd y2z; have HA3 : Hid (Up W0 w3) := HA2.o.trans (hb3.mono HA2.o.size); have hbr := (HX0.o w3 HA3.o).2.2; clear hb3 y1z y2z k0 j0 k1 j1 k2 j2 k3 j3 k4 j4 k5 j5 k6 j6 k7 j7; obtain ⟨q0, q1, q2, q3, q4, q5⟩ := hbr.c6; obtain ⟨qf0, qf1, qf2, qf3, qf4, qf5⟩ := hbr.f6; clear hbr
     go_wp2
     have hbr := (HX0.o w3 HA3.o).2.2; have hnR : NoInt w3 (w.heap.size + 1 + 1) := noInt_of hbr (by simp); have HK := keepsC6 w3 (w.heap.size + 1 + 1) (.int .i64 a5) (.bool n5) (.slice d5 l5 c5) (.int .i64 a6) (.bool n6) (.slice d6 l6 c6); have hD1 := (HR1.o).keeps hnR hnR HK; have hD2 := (HR2.o).keeps hnR hnR HK; have hB9 := bs6 (HB0.o.trans (HA3.o.mono HB0.o.size)) (w.heap.size + 1 + 1) (by omega) (.int .i64 a5) (.bool n5) (.slice d5 l5 c5) (.int .i64 a6) (.bool n6) (.slice d6 l6 c6); have hZ9 := hbr.s6 (.int .i64 a5) (.bool n5) (.slice d5 l5 c5) (.int .i64 a6) (.bool n6) (.slice d6 l6 c6); generalize (((((w3.setCell ⟨w.heap.size + 1 + 1, 0, none⟩ (.int .i64 a5)).setCell ⟨w.heap.size + 1 + 1, 1, none⟩ (.bool n5)).setCell ⟨w.heap.size + 1 + 1, 2, none⟩ (.slice d5 l5 c5)).setCell ⟨w.heap.size + 1 + 1, 3, none⟩ (.int .i64 a6)).setCell ⟨w.heap.size + 1 + 1, 4, none⟩ (.bool n6)).setCell ⟨w.heap.size + 1 + 1, 5, none⟩ (.slice d6 l6 c6) = W9 at *; obtain ⟨v0, v1, v2, v3, v4, v5⟩ := hZ9.c6; refine bodyPost_ret (v := .agg #[.int .i64 a5, .bool n5, .slice d5 l5 c5, .int .i64 a6, .bool n6, .slice d6 l6 c6]) ?_ rfl ⟨_, _, _, rfl, qn_mk hD1 hD2, HBE.o, hB9⟩; simp [results, Tryz.results73, go_sem, v0, v1, v2, v3, v4, v5]
    ·have hml := HT.o.mirror.low (by rw [← high_low]; exact hho); have hh2 := hml.1; have HE := Hd hml.2; have HBE : Hid (∀ p q, Sim o2 (-x2) y2 h1 o1 (-x1) y1 p q → Best h1 o1 x1 y1 h2 o2 x2 y2 (-p) q) := fun p q hs => by
      unfold Best; rw [if_neg (by rw [hlo]; decide), if_pos hho]; exact ⟨p, rfl, hs⟩
     subst hh2; have TA : Hid (∀ W, Up wb W → Calls Tryz.prog 126 #[.agg #[.int .i64 a3, .bool n3, .slice d3 l3 c3, .int .i64 a4, .bool n4, .slice d4 l4 c4]] W (fun e w' => ∃ z', e = .returned z' ∧ IsQN 0 w' z' (-x2) y2 ∧ Up W w')) := fun W hW => l2Minus_any _ x2 y2 W (qn_mk ((H3.o.below HE2.o).below hW) ((H4.o.below HE2.o).below hW)); have TB : Hid (∀ W, Up wb W → Calls Tryz.prog 126 #[.agg #[.int .i64 a1, .bool n1, .slice d1 l1 c1, .int .i64 a2, .bool n2, .slice d2 l2 c2]] W (fun e w' => ∃ z', e = .returned z' ∧ IsQN 0 w' z' (-x1) y1 ∧ Up W w')) := fun W hW => l2Minus_any _ x1 y1 W (qn_mk ((H1.o.below HE2.o).below hW) ((H2.o.below HE2.o).below hW)); have TC : Hid (∀ W za zb, Up wb W → IsES W za true o2 (-x2) y2 → IsES W zb h1 o1 (-x1) y1 → Calls Tryz.prog 125 #[za, zb] W (fun e w' => ∃ z p q, e = .returned z ∧ IsQN 0 w' z p q ∧ Sim o2 (-x2) y2 h1 o1 (-x1) y1 p q ∧ Up W w')) := fun W za zb hW ha hb =>
      l2Simple_any _ o2 (-x2) y2 h1 o1 (-x1) y1 za zb W leR ha hb HE.o ⟨by rw [Int.natAbs_neg]; exact HLB.o.2.2.1, HLB.o.2.2.2, by rw [Int.natAbs_neg]; exact HLB.o.1, HLB.o.2.1⟩
     have hz0 : w.heap.size + 2 < wb.heap.size := by have := HA2.o.size; have := HS0.o; omega
     clear hlo hho hml
     go_upto_region 6 with fail
     go_cut [7] (fun q7 wx => ∃ (gb : Nat) (a7 : Int) (n7 : Bool) (d7 : Option Addr) (l7 c7 : Nat) (a8 : Int) (n8 : Bool) (d8 : Option Addr) (l8 c8 : Nat) (p q : Int), q7 = .pointer (some ⟨gb, 0, none⟩) ∧ wb.heap.size ≤ gb ∧ Bx wx gb [.int .i64 a7, .bool n7, .slice d7 l7 c7, .int .i64 a8, .bool n8, .slice d8 l8 c8] ∧ NumZ 0 wx (.agg #[.int .i64 a7, .bool n7, .slice d7 l7 c7]) (p) 1000 ∧ NumZ 0 wx (.agg #[.int .i64 a8, .bool n8, .slice d8 l8 c8]) (q) 1000 ∧ Sim o2 (-x2) y2 h1 o1 (-x1) y1 p q ∧ Up wb wx)
     case first =>
      go_wp2_with fail
      go_region_held3 (fun W => W.cell? ⟨w.heap.size, 0, none⟩ = some (.bool h1) ∧ W.cell? ⟨w.heap.size, 1, none⟩ = some (.bool o1) ∧ W.cell? ⟨w.heap.size, 2, none⟩ = some (.int .i64 a1) ∧ W.cell? ⟨w.heap.size, 3, none⟩ = some (.bool n1) ∧ W.cell? ⟨w.heap.size, 4, none⟩ = some (.slice d1 l1 c1) ∧ W.cell? ⟨w.heap.size, 5, none⟩ = some (.int .i64 a2) ∧ W.cell? ⟨w.heap.size, 6, none⟩ = some (.bool n2) ∧ W.cell? ⟨w.heap.size, 7, none⟩ = some (.slice d2 l2 c2) ∧ W.cell? ⟨w.heap.size + 1, 0, none⟩ = some (.bool true) ∧ W.cell? ⟨w.heap.size + 1, 1, none⟩ = some (.bool o2) ∧ W.cell? ⟨w.heap.size + 1, 2, none⟩ = some (.int .i64 a3) ∧ W.cell? ⟨w.heap.size + 1, 3, none⟩ = some (.bool n3) ∧ W.cell? ⟨w.heap.size + 1, 4, none⟩ = some (.slice d3 l3 c3) ∧ W.cell? ⟨w.heap.size + 1, 5, none⟩ = some (.int .i64 a4) ∧ W.cell? ⟨w.heap.size + 1, 6, none⟩ = some (.bool n4) ∧ W.cell? ⟨w.heap.size + 1, 7, none⟩ = some (.slice d4 l4 c4)) (first
       | with_reducible assumption | with_reducible exact putS_16_6 (by with_reducible assumption) _ (by dsimp only; omega) _ _ _ _ _ _ | go_keep) (first
       | (go_at_call_of 126 (Value.slice d3 l3 c3)
          refine (TA.o _ ?_).mono ?_
          ·repeat' (first | exact Below.refl _ _ | refine Below.drew ?_ | refine Below.alloc ?_ ?_ _ | assumption | (simp; done) | (simp; omega))
          rintro e wt1 ⟨u1, rfl, hu, hb⟩; obtain ⟨a9, n9, d9, l9, c9, a10, n10, d10, l10, c10, rfl, y1z, y2z⟩ := hu; have HU1 : Hid (IsES wt1 (.agg #[.bool true, .bool o2, .int .i64 a9, .bool n9, .slice d9 l9 c9, .int .i64 a10, .bool n10, .slice d10 l10 c10]) true o2 (-x2) y2) := ⟨_, _, _, _, _, _, _, _, _, _, rfl, y1z, y2z⟩; have HQ1 : Hid (Up wb wt1) := by
           unfold Hid
           refine Below.trans ?_ (hb.mono ?_)
           ·repeat' (first | exact Below.refl _ _ | refine Below.drew ?_ | refine Below.alloc ?_ ?_ _ | assumption | (simp; done) | (simp; omega))
           ·simp
          have HK1 := Hd (fun (gg : Nat) (l : List Value) (hx : Bx _ gg l) => hx.below hx.lt hb); have hz1 := HQ1.o.size
          try (have hnb : Bx wt1 wb.heap.size [.int .i64 0, .bool false, .slice none 0 0, .int .i64 0, .bool false, .slice none 0 0] := by with_reducible exact HK1.o _ _ (bx_newD _ _ _))
          try have HNB := Hd hnb
          try clear hnb
          have hxa := HX0.o wt1 (HA2.o.trans (HQ1.o.mono HA2.o.size)); have hSwt1 := cc8_8 hxa.1 hxa.2.1; clear hxa; clear y1z y2z hb)
       | (go_at_call_of 126 (Value.slice d1 l1 c1)
          refine (TB.o _ ?_).mono ?_
          ·repeat' (first | exact HQ1.o | refine Below.drew ?_ | refine Below.alloc ?_ ?_ _ | assumption | (simp; done) | (simp; omega))
          rintro e wt2 ⟨u2, rfl, hu, hb⟩; obtain ⟨a11, n11, d11, l11, c11, a12, n12, d12, l12, c12, rfl, y1z, y2z⟩ := hu; have HU2 : Hid (IsES wt2 (.agg #[.bool h1, .bool o1, .int .i64 a11, .bool n11, .slice d11 l11 c11, .int .i64 a12, .bool n12, .slice d12 l12 c12]) h1 o1 (-x1) y1) := ⟨_, _, _, _, _, _, _, _, _, _, rfl, y1z, y2z⟩; have HV1 : Hid (IsES wt2 (.agg #[.bool true, .bool o2, .int .i64 a9, .bool n9, .slice d9 l9 c9, .int .i64 a10, .bool n10, .slice d10 l10 c10]) true o2 (-x2) y2) := by
           show IsES wt2 _ true o2 (-x2) y2
           first | exact HU1.o.below hb | exact (HU1.o.below (below_alloc _ _)).below hb
          have HQ2 : Hid (Up wb wt2) := by
           unfold Hid
           refine Below.trans ?_ (hb.mono ?_)
           ·repeat' (first | exact HQ1.o | refine Below.drew ?_ | refine Below.alloc ?_ ?_ _ | assumption | (simp; done) | (simp; omega))
           ·first | exact hz1 | (simp; omega)
          have HK2 := Hd (fun (gg : Nat) (l : List Value) (hx : Bx _ gg l) => hx.below hx.lt hb); have hz2 := HQ2.o.size
          try (have hnb : Bx wt2 wb.heap.size [.int .i64 0, .bool false, .slice none 0 0, .int .i64 0, .bool false, .slice none 0 0] := by with_reducible exact HK2.o _ _ HNB.o)
          try (have hnb : Bx wt2 wt1.heap.size [.int .i64 0, .bool false, .slice none 0 0, .int .i64 0, .bool false, .slice none 0 0] := by with_reducible exact HK2.o _ _ (bx_new _ _ _))
          try have HNC := Hd hnb
          try clear hnb
          have hxa := HX0.o wt2 (HA2.o.trans (HQ2.o.mono HA2.o.size)); have hSwt2 := cc8_8 hxa.1 hxa.2.1; clear hxa; clear y1z y2z hb)
       | (go_at_call 125
          refine (TC.o _ _ _ ?_ ?_ ?_).mono ?_
          ·repeat' (first | exact HQ2.o | refine Below.drew ?_ | refine Below.alloc ?_ ?_ _ | assumption | (simp; done) | (simp; omega))
          ·first | exact HV1.o | exact HV1.o.below (below_alloc _ _)
          ·first | exact HU2.o | exact HU2.o.below (below_alloc _ _)
          rintro e wm ⟨u3, p, q, rfl, hu, hsim, hb⟩; obtain ⟨a7, n7, d7, l7, c7, a8, n8, d8, l8, c8, rfl, y1z, y2z⟩ := hu; have HU3 := Hd y1z; have HU4 := Hd y2z; have HSI := Hd hsim; have HQM : Hid (Up wb wm) := by
           unfold Hid
           refine Below.trans ?_ (hb.mono ?_)
           ·repeat' (first | exact HQ2.o | refine Below.drew ?_ | refine Below.alloc ?_ ?_ _ | assumption | (simp; done) | (simp; omega))
           ·first | exact hz2 | (simp; omega)
          have HK3 := Hd (fun (gg : Nat) (l : List Value) (hx : Bx _ gg l) => hx.below hx.lt hb); have hz3 := HQM.o.size
          try (have hnb : Bx wm wb.heap.size [.int .i64 0, .bool false, .slice none 0 0, .int .i64 0, .bool false, .slice none 0 0] := by with_reducible exact HK3.o _ _ HNC.o)
          try (have hnb : Bx wm wt1.heap.size [.int .i64 0, .bool false, .slice none 0 0, .int .i64 0, .bool false, .slice none 0 0] := by with_reducible exact HK3.o _ _ HNC.o)
          try (have hnb : Bx wm wt2.heap.size [.int .i64 0, .bool false, .slice none 0 0, .int .i64 0, .bool false, .slice none 0 0] := by with_reducible exact HK3.o _ _ (bx_new _ _ _))
          try (have e0' := hnb.cell 0; have ef0' := hnb.frozen 0; have e1' := hnb.cell 1; have ef1' := hnb.frozen 1; have e2' := hnb.cell 2; have ef2' := hnb.frozen 2; have e3' := hnb.cell 3; have ef3' := hnb.frozen 3; have e4' := hnb.cell 4; have ef4' := hnb.frozen 4; have e5' := hnb.cell 5; have ef5' := hnb.frozen 5; simp only [List.getElem?_cons_zero, List.getElem?_cons_succ] at e0' e1' e2' e3' e4' e5')
          try have HND := Hd hnb
          try clear hnb
          have hxa := HX0.o wm (HA2.o.trans (HQM.o.mono HA2.o.size)); have hSwm := cc8_8 hxa.1 hxa.2.1; clear hxa; clear y1z y2z hsim hb))
      all_goals
       go_wp2_with fail
       go_meet
       first
        | (have hnb := HND.o; exact ⟨_, a7, n7, d7, l7, c7, a8, n8, d8, l8, c8, p, q, rfl, (by first | exact leR | exact hz1 | exact hz2), ((((((hnb.set 0 (.int .i64 a7)).set 1 (.bool n7)).set 2 (.slice d7 l7 c7)).set 3 (.int .i64 a8)).set 4 (.bool n8)).set 5 (.slice d8 l8 c8)), HU3.o.keeps (noInt_of hnb (by simp)) (noInt_of hnb (by simp)) (keepsC6 wm _ _ _ _ _ _ _), HU4.o.keeps (noInt_of hnb (by simp)) (noInt_of hnb (by simp)) (keepsC6 wm _ _ _ _ _ _ _), HSI.o, (((((HQM.o.setCell (by dsimp only; omega) _).setCell (by dsimp only; omega) _).setCell (by dsimp only; omega) _).setCell (by dsimp only; omega) _).setCell (by dsimp only; omega) _).setCell (by dsimp only; omega) _⟩)
        | exact ⟨wm.heap.size, a7, n7, d7, l7, c7, a8, n8, d8, l8, c8, p, q, rfl, hz3, bx_new wm _ _, HU3.o.below (below_alloc _ _), HU4.o.below (below_alloc _ _), HSI.o, HQM.o.alloc HQM.o.size _⟩
     case rest =>
      obtain ⟨gb, a7, n7, d7, l7, c7, a8, n8, d8, l8, c8, p, q, rfl, hgb, hbx, y1z, y2z, hsim, hbc⟩ := hcut; obtain ⟨wg, rfl⟩ : ∃ wg, wg = wc := ⟨_, rfl⟩; have HR1 := Hd y1z; have HR2 := Hd y2z; have HSI := Hd hsim; have HA3 : Hid (Up W0 wg) := HA2.o.trans (hbc.mono HA2.o.size); clear y1z y2z hsim hbc k0 j0 k1 j1 k2 j2 k3 j3 k4 j4 k5 j5 k6 j6 k7 j7; obtain ⟨m0, m1, m2, m3, m4, m5⟩ := hbx.c6; clear hbx
      go_wp2_with fail
      refine (l2Minus_any _ p q _ (qn_mk HR1.o HR2.o)).mono ?_; rintro e w3 ⟨z, rfl, hz, hb3⟩; obtain ⟨a5, n5, d5, l5, c5, a6, n6, d6, l6, c6, rfl, y1z, y2z⟩ := hz; have HR3 := Hd y1z; have HR4 := Hd y2z; have HA4 : Hid (Up W0 w3) := HA3.o.trans (hb3.mono HA3.o.size); have hbr := (HX0.o w3 HA4.o).2.2; clear hb3 y1z y2z m0 m1 m2 m3 m4 m5; obtain ⟨q0, q1, q2, q3, q4, q5⟩ := hbr.c6; obtain ⟨qf0, qf1, qf2, qf3, qf4, qf5⟩ := hbr.f6; clear hbr
      go_wp2
      have hbr := (HX0.o w3 HA4.o).2.2; have hnR : NoInt w3 (w.heap.size + 1 + 1) := noInt_of hbr (by simp); have HK := keepsC6 w3 (w.heap.size + 1 + 1) (.int .i64 a5) (.bool n5) (.slice d5 l5 c5) (.int .i64 a6) (.bool n6) (.slice d6 l6 c6); have hD1 := (HR3.o).keeps hnR hnR HK; have hD2 := (HR4.o).keeps hnR hnR HK; have hB9 := bs6 (HB0.o.trans (HA4.o.mono HB0.o.size)) (w.heap.size + 1 + 1) (by omega) (.int .i64 a5) (.bool n5) (.slice d5 l5 c5) (.int .i64 a6) (.bool n6) (.slice d6 l6 c6); have hZ9 := hbr.s6 (.int .i64 a5) (.bool n5) (.slice d5 l5 c5) (.int .i64 a6) (.bool n6) (.slice d6 l6 c6); generalize (((((w3.setCell ⟨w.heap.size + 1 + 1, 0, none⟩ (.int .i64 a5)).setCell ⟨w.heap.size + 1 + 1, 1, none⟩ (.bool n5)).setCell ⟨w.heap.size + 1 + 1, 2, none⟩ (.slice d5 l5 c5)).setCell ⟨w.heap.size + 1 + 1, 3, none⟩ (.int .i64 a6)).setCell ⟨w.heap.size + 1 + 1, 4, none⟩ (.bool n6)).setCell ⟨w.heap.size + 1 + 1, 5, none⟩ (.slice d6 l6 c6) = W9 at *; obtain ⟨v0, v1, v2, v3, v4, v5⟩ := hZ9.c6; refine bodyPost_ret (v := .agg #[.int .i64 a5, .bool n5, .slice d5 l5 c5, .int .i64 a6, .bool n6, .slice d6 l6 c6]) ?_ rfl ⟨_, _, _, rfl, qn_mk hD1 hD2, HBE.o _ _ HSI.o, hB9⟩; simp [results, Tryz.results73, go_sem, v0, v1, v2, v3, v4, v5]
   ·have hml := HT.o.low hlo; have hh1 := hml.1; have HE := Hd hml.2; have HBE : Hid (∀ p q, Sim o1 x1 y1 h2 o2 x2 y2 p q → Best h1 o1 x1 y1 h2 o2 x2 y2 p q) := fun p q hs => by
     unfold Best; rw [if_pos hlo]; exact hs
    subst hh1; clear hlo hml
    go_wp2_with fail
    refine (l2Simple_any _ o1 x1 y1 h2 o2 x2 y2 _ _ wb leR ⟨_, _, _, _, _, _, _, _, _, _, rfl, H1.o.below HE2.o, H2.o.below HE2.o⟩ ⟨_, _, _, _, _, _, _, _, _, _, rfl, H3.o.below HE2.o, H4.o.below HE2.o⟩ HE.o HLB.o).mono ?_; rintro e w3 ⟨z, p, q, rfl, hq, hsim, hb3⟩; obtain ⟨a5, n5, d5, l5, c5, a6, n6, d6, l6, c6, rfl, y1z, y2z⟩ := hq; have HR1 := Hd y1z; have HR2 := Hd y2z; have HSI := Hd hsim; have HA3 : Hid (Up W0 w3) := HA2.o.trans (hb3.mono HA2.o.size); have hbr := (HX0.o w3 HA3.o).2.2; clear hb3 y1z y2z hsim k0 j0 k1 j1 k2 j2 k3 j3 k4 j4 k5 j5 k6 j6 k7 j7; obtain ⟨q0, q1, q2, q3, q4, q5⟩ := hbr.c6; obtain ⟨qf0, qf1, qf2, qf3, qf4, qf5⟩ := hbr.f6; clear hbr
    go_wp2
    have hbr := (HX0.o w3 HA3.o).2.2; have hnR : NoInt w3 (w.heap.size + 1 + 1) := noInt_of hbr (by simp); have HK := keepsC6 w3 (w.heap.size + 1 + 1) (.int .i64 a5) (.bool n5) (.slice d5 l5 c5) (.int .i64 a6) (.bool n6) (.slice d6 l6 c6); have hD1 := (HR1.o).keeps hnR hnR HK; have hD2 := (HR2.o).keeps hnR hnR HK; have hB9 := bs6 (HB0.o.trans (HA3.o.mono HB0.o.size)) (w.heap.size + 1 + 1) (by omega) (.int .i64 a5) (.bool n5) (.slice d5 l5 c5) (.int .i64 a6) (.bool n6) (.slice d6 l6 c6); have hZ9 := hbr.s6 (.int .i64 a5) (.bool n5) (.slice d5 l5 c5) (.int .i64 a6) (.bool n6) (.slice d6 l6 c6); generalize (((((w3.setCell ⟨w.heap.size + 1 + 1, 0, none⟩ (.int .i64 a5)).setCell ⟨w.heap.size + 1 + 1, 1, none⟩ (.bool n5)).setCell ⟨w.heap.size + 1 + 1, 2, none⟩ (.slice d5 l5 c5)).setCell ⟨w.heap.size + 1 + 1, 3, none⟩ (.int .i64 a6)).setCell ⟨w.heap.size + 1 + 1, 4, none⟩ (.bool n6)).setCell ⟨w.heap.size + 1 + 1, 5, none⟩ (.slice d6 l6 c6) = W9 at *; obtain ⟨v0, v1, v2, v3, v4, v5⟩ := hZ9.c6; refine bodyPost_ret (v := .agg #[.int .i64 a5, .bool n5, .slice d5 l5 c5, .int .i64 a6, .bool n6, .slice d6 l6 c6]) ?_ rfl ⟨_, _, _, rfl, qn_mk hD1 hD2, HBE.o _ _ HSI.o, hB9⟩; simp [results, Tryz.results73, go_sem, v0, v1, v2, v3, v4, v5]
def OkE (h : Bool) (t : ByteArray) (k : Option Nat) : Prop := h = true → ∃ x y, RatV t k x y
theorem okE_ends {h : Bool} {t : ByteArray} {k : Option Nat} (a : OkE h t k) : ∃ x y x' y', (h = true → RatV t k x y) ∧ (h = false → x = 0 ∧ y = 1) ∧ RdE h t k x' y' ∧ (h = true → x = x' ∧ y = y') ∧ x.natAbs < lb 281 ∧ y.natAbs < lb 281 ∧ (h = true → 0 < y ∧ Int.gcd x y = 1) := by
 cases h with
 | false =>
   have h1 : (0 : Int).natAbs < lb 281 := Nat.lt_of_lt_of_le (by decide) (Nat.le_of_lt (lb_one 281 (by decide))); exact ⟨0, 1, 0, 0, fun e => (by cases e), fun _ => ⟨rfl, rfl⟩, ⟨rfl, rfl⟩, fun e => (by cases e), h1, lb_one 281 (by decide), fun e => (by cases e)⟩
 | true =>
   obtain ⟨x, y, hV⟩ := a rfl; have hr : RdE true t k x y := hV; have hl := hr.lt; exact ⟨x, y, x, y, fun _ => hV, fun e => (by cases e), hr, fun _ => ⟨rfl, rfl⟩, hl.1, hl.2.1, hl.2.2⟩
theorem none_irrel {h1 o1 : Bool} {x1 y1 : Int} {h2 o2 : Bool} {x2 y2 x1' y1' x2' y2' : Int} (e1 : h1 = true → x1 = x1' ∧ y1 = y1') (e2 : h2 = true → x2 = x2' ∧ y2 = y2') : NoneB h1 o1 x1 y1 h2 o2 x2 y2 = NoneB h1 o1 x1' y1' h2 o2 x2' y2' := by
 unfold NoneB
 cases h1 with
 | false => rfl
 | true =>
   cases h2 with
   | false => rfl
   | true => rw [(e1 rfl).1, (e1 rfl).2, (e2 rfl).1, (e2 rfl).2]
set_option maxRecDepth 100000 in
set_option maxHeartbeats 4000000 in
theorem specSimplest_any (h1 o1 : Bool) (t1 : ByteArray) (h2 o2 : Bool) (t2 : ByteArray) (w : World) (ht1 : t1.size ≤ maxLen) (ht2 : t2.size ≤ maxLen) :
 Calls Tryz.prog 28 #[.agg #[.bool h1, .bool o1, .string t1], .agg #[.bool h2, .bool o2, .string t2]] w fun e w' => ∃ u, e = .returned (.string u) ∧ ResS h1 o1 t1 h2 o2 t2 u ∧ Up w w' := by
 obtain ⟨q1_, hk1⟩ := isCut_ex t1; obtain ⟨q2_, hk2⟩ := isCut_ex t2; have HK1 := Hd hk1; have HK2 := Hd hk2; clear hk1 hk2; obtain ⟨W0, hW0⟩ := exW ((w.alloc (.cells #[.bool h1, .bool o1, .string t1] 31)).alloc (.cells #[.bool h2, .bool o2, .string t2] 31)); have HW0 := Hd hW0; have HB0 : Hid (Up w W0) := by unfold Hid; rw [← hW0]; exact below_al (below_alloc _ _) _
 have HS0 : Hid (W0.heap.size = w.heap.size + 2) := by show W0.heap.size = _; rw [← hW0]; simp
 have hx0_0 : Bx W0 (w.heap.size) [.bool h1, .bool o1, .string t1] := by
  rw [← hW0]; exact (bx_new w _ _).alloc _
 have hx0_1 : Bx W0 (w.heap.size + 1) [.bool h2, .bool o2, .string t2] := by
  rw [← hW0]; have h := bx_new (w.alloc (.cells #[.bool h1, .bool o1, .string t1] 31)) [.bool h2, .bool o2, .string t2] 31; rw [World.size_alloc] at h; exact h
 have HX0 : Hid (∀ W, Up W0 W → Bx W (w.heap.size) [.bool h1, .bool o1, .string t1] ∧ Bx W (w.heap.size + 1) [.bool h2, .bool o2, .string t2]) := fun W hW => ⟨hx0_0.below hx0_0.lt hW, hx0_1.below hx0_1.lt hW⟩; obtain ⟨k0, k1, k2⟩ := hx0_0.c3; obtain ⟨j0, j1, j2⟩ := hx0_1.c3; clear hW0 hx0_0 hx0_1
 go_enter Tryz.func28, Tryz.ntmps28
 go_upto_region 1 with fail
 rw [HW0.o]
 go_cut [24] (fun q24 wx => ∃ bad, q24 = .bool bad ∧ (bad = true → ¬ OkE h1 t1 q1_ ∨ ¬ OkE h2 t2 q2_) ∧ (bad = false → OkE h1 t1 q1_ ∧ OkE h2 t2 q2_) ∧ Up W0 wx)
 case first =>
  have TR1 : Hid (∀ W, Calls Tryz.prog 57 #[.string t1] W (fun e w' => ∃ b, e = .returned (.bool b) ∧ (b = true ↔ ∃ x y, RatV t1 q1_ x y) ∧ Up W w')) := fun W => by
   refine (specIsRat_any t1 W ht1).mono ?_; rintro e w' ⟨b, rfl, ⟨k, hk, hi⟩, hb⟩; obtain rfl := isCut_unique hk HK1.o; exact ⟨b, rfl, hi, hb⟩
  have TR2 : Hid (∀ W, Calls Tryz.prog 57 #[.string t2] W (fun e w' => ∃ b, e = .returned (.bool b) ∧ (b = true ↔ ∃ x y, RatV t2 q2_ x y) ∧ Up W w')) := fun W => by
   refine (specIsRat_any t2 W ht2).mono ?_; rintro e w' ⟨b, rfl, ⟨k, hk, hi⟩, hb⟩; obtain rfl := isCut_unique hk HK2.o; exact ⟨b, rfl, hi, hb⟩
  cases h1
  ·cases h2
   ·go_wp2_with fail
    go_meet
    exact ⟨false, rfl, fun e => (by cases e), fun _ => ⟨fun e => (by cases e), fun e => (by cases e)⟩, Below.refl _ _⟩
   ·go_wp2_with fail
    refine (TR2.o _).mono ?_; rintro e wx ⟨b, rfl, hi, hb⟩; have HI := Hd hi; have HBX := Hd hb; clear hi hb
    cases b
    ·go_wp2_with fail
     go_meet
     exact ⟨true, rfl, fun _ => .inr fun h => (Bool.noConfusion (HI.o.2 (h rfl)) : False), fun e => (by cases e), HBX.o⟩
    ·go_wp2_with fail
     go_meet
     exact ⟨false, rfl, fun e => (by cases e), fun _ => ⟨fun e => (by cases e), fun _ => HI.o.1 (by first | rfl | trivial)⟩, HBX.o⟩
  ·go_wp2_with fail
   refine (TR1.o _).mono ?_; rintro e wx ⟨b, rfl, hi, hb⟩; have HI := Hd hi; have HBX := Hd hb; have hxj := (HX0.o wx hb).2; obtain ⟨m0, m1, m2⟩ := hxj.c3; clear hi hb hxj
   cases b
   ·go_wp2_with fail
    go_meet
    exact ⟨true, rfl, fun _ => .inl fun h => (Bool.noConfusion (HI.o.2 (h rfl)) : False), fun e => (by cases e), HBX.o⟩
   ·cases h2
    ·go_wp2_with fail
     go_meet
     exact ⟨false, rfl, fun e => (by cases e), fun _ => ⟨fun _ => HI.o.1 (by first | rfl | trivial), fun e => (by cases e)⟩, HBX.o⟩
    ·go_wp2_with fail
     refine (TR2.o _).mono ?_; rintro e wy ⟨b, rfl, hi2, hb2⟩; have HI2 := Hd hi2; have HBY : Hid (Up W0 wy) := HBX.o.trans (hb2.mono HBX.o.size); clear hi2 hb2
     cases b
     ·go_wp2_with fail
      go_meet
      exact ⟨true, rfl, fun _ => .inr fun h => (Bool.noConfusion (HI2.o.2 (h rfl)) : False), fun e => (by cases e), HBY.o⟩
     ·go_wp2_with fail
      go_meet
      exact ⟨false, rfl, fun e => (by cases e), fun _ => ⟨fun _ => HI.o.1 (by first | rfl | trivial), fun _ => HI2.o.1 (by first | rfl | trivial)⟩, HBY.o⟩
 case rest =>
  obtain ⟨bad, rfl, hbad, hgood, hbc⟩ := hcut; obtain ⟨wa, rfl⟩ : ∃ wa, wa = wc := ⟨_, rfl⟩; have HA1 := Hd hbc; have HE1 : Hid (Up w wa) := HB0.o.trans (hbc.mono HB0.o.size); have HBAD := Hd hbad; have HGOOD := Hd hgood; clear hbc hbad hgood k0 k1 k2 j0 j1 j2
  cases bad
  ·obtain ⟨ok1, ok2⟩ := HGOOD.o (by first | rfl | trivial); obtain ⟨x1, y1, X1, Y1, v1, z1, r1, e1, b1, b2, g1⟩ := okE_ends ok1; obtain ⟨x2, y2, X2, Y2, v2, z2, r2, e2, b3, b4, g2⟩ := okE_ends ok2; have HV1 := Hd v1; have HZ1 := Hd z1; have HV2 := Hd v2; have HZ2 := Hd z2; have HRD : Hid (RdE h1 t1 q1_ X1 Y1 ∧ RdE h2 t2 q2_ X2 Y2) := ⟨r1, r2⟩; have HEQ : Hid ((h1 = true → x1 = X1 ∧ y1 = Y1) ∧ (h2 = true → x2 = X2 ∧ y2 = Y2)) := ⟨e1, e2⟩; have HLB : Hid (x1.natAbs < lb 281 ∧ y1.natAbs < lb 281 ∧ x2.natAbs < lb 281 ∧ y2.natAbs < lb 281) := ⟨b1, b2, b3, b4⟩; have HG : Hid ((h1 = true → 0 < y1 ∧ Int.gcd x1 y1 = 1) ∧ (h2 = true → 0 < y2 ∧ Int.gcd x2 y2 = 1)) := ⟨g1, g2⟩; clear v1 z1 v2 z2 r1 r2 e1 e2 b1 b2 b3 b4 g1 g2 ok1 ok2; have hxk := (HX0.o wa HA1.o).1; obtain ⟨k0, k1, k2⟩ := hxk.c3; clear hxk
   go_wp2_with fail
   refine (l2EndOf_any h1 o1 t1 q1_ x1 y1 _ ht1 HK1.o HV1.o HZ1.o).mono ?_; rintro e w1 ⟨ze1, rfl, hze, hb1⟩; obtain ⟨oo1, hoo1⟩ : ∃ b, (h1 && o1) = b := ⟨_, rfl⟩; rw [hoo1] at hze; have HOO1 := Hd hoo1; have HES1 := Hd hze; obtain ⟨a1, n1, d1, l1, c1, a2, n2, d2, l2, c2, rfl, _, _⟩ := hze; have HC1 : Hid (Up W0 w1) := HA1.o.trans (hb1.mono HA1.o.size); clear hb1 hoo1 k0 k1 k2; obtain ⟨W1, hW1⟩ := exW (w1.alloc (.cells #[.bool h1, .bool oo1, .int .i64 a1, .bool n1, .slice d1 l1 c1, .int .i64 a2, .bool n2, .slice d2 l2 c2] 88)); have HW1 := Hd hW1; have HB1 : Hid (Up w1 W1) := by unfold Hid; rw [← hW1]; exact below_alloc _ _
   have HS1 : Hid (W1.heap.size = w1.heap.size + 1) := by show W1.heap.size = _; rw [← hW1]; simp
   have hx1_0 : Bx W1 (w1.heap.size) [.bool h1, .bool oo1, .int .i64 a1, .bool n1, .slice d1 l1 c1, .int .i64 a2, .bool n2, .slice d2 l2 c2] := by
    rw [← hW1]; exact bx_new w1 _ _
   have HX1 : Hid (∀ W, Up W1 W → Bx W (w1.heap.size) [.bool h1, .bool oo1, .int .i64 a1, .bool n1, .slice d1 l1 c1, .int .i64 a2, .bool n2, .slice d2 l2 c2]) := fun W hW => hx1_0.below hx1_0.lt hW; have HD1 : Hid (Up W0 W1) := HC1.o.trans (HB1.o.mono HC1.o.size); have hxk := (HX0.o W1 HD1.o).2; obtain ⟨k0, k1, k2⟩ := hxk.c3; clear hW1 hx1_0 hxk
   go_upto_region 4 with fail
   rw [HW1.o]
   go_wp2_with fail
   refine (l2EndOf_any h2 o2 t2 q2_ x2 y2 _ ht2 HK2.o HV2.o HZ2.o).mono ?_; rintro e w2 ⟨ze2, rfl, hze, hb2⟩; obtain ⟨oo2, hoo2⟩ : ∃ b, (h2 && o2) = b := ⟨_, rfl⟩; rw [hoo2] at hze; have HOO2 := Hd hoo2; have HES2 := Hd hze; obtain ⟨a3, n3, d3, l3, c3, a4, n4, d4, l4, c4, rfl, _, _⟩ := hze; have HC2 := Hd hb2; clear hb2 hoo2 k0 k1 k2; obtain ⟨W2, hW2⟩ := exW (w2.alloc (.cells #[.bool h2, .bool oo2, .int .i64 a3, .bool n3, .slice d3 l3 c3, .int .i64 a4, .bool n4, .slice d4 l4 c4] 88)); have HW2 := Hd hW2; have HB2 : Hid (Up w2 W2) := by unfold Hid; rw [← hW2]; exact below_alloc _ _
   have HS2 : Hid (W2.heap.size = w2.heap.size + 1) := by show W2.heap.size = _; rw [← hW2]; simp
   have hx2_0 : Bx W2 (w2.heap.size) [.bool h2, .bool oo2, .int .i64 a3, .bool n3, .slice d3 l3 c3, .int .i64 a4, .bool n4, .slice d4 l4 c4] := by
    rw [← hW2]; exact bx_new w2 _ _
   have HX2 : Hid (∀ W, Up W2 W → Bx W (w2.heap.size) [.bool h2, .bool oo2, .int .i64 a3, .bool n3, .slice d3 l3 c3, .int .i64 a4, .bool n4, .slice d4 l4 c4]) := fun W hW => hx2_0.below hx2_0.lt hW; have HA12 : Hid (Up W1 W2) := HC2.o.trans (HB2.o.mono HC2.o.size); have HE2 : Hid (Up w W2) := HB0.o.trans ((HD1.o.trans (HA12.o.mono HD1.o.size)).mono HB0.o.size); have HI1 := Hd (HES1.o.below (HB1.o.trans (HA12.o.mono HB1.o.size))); have HI2 := Hd (HES2.o.below HB2.o); have hxk := HX1.o W2 HA12.o; obtain ⟨k0, k1, k2, k3, k4, k5, k6, k7⟩ := hxk.c8; obtain ⟨j0, j1, j2, j3, j4, j5, j6, j7⟩ := hx2_0.c8; clear hW2 hx2_0 hxk
   go_upto_region 5 with fail
   rw [HW2.o]
   go_wp2_with fail
   refine (l2Empty_any _ _ h1 oo1 x1 y1 h2 oo2 x2 y2 W2 HI1.o HI2.o).mono ?_; rintro e w3 ⟨rfl, hb3⟩; have HC3 := Hd hb3; have HE3 : Hid (Up w w3) := HE2.o.trans (hb3.mono HE2.o.size); have hxk := HX1.o w3 (HA12.o.trans (hb3.mono HA12.o.size)); have hxj := HX2.o w3 hb3; clear hb3 k0 j0 k1 j1 k2 j2 k3 j3 k4 j4 k5 j5 k6 j6 k7 j7; obtain ⟨k0, k1, k2, k3, k4, k5, k6, k7⟩ := hxk.c8; obtain ⟨j0, j1, j2, j3, j4, j5, j6, j7⟩ := hxj.c8; clear hxk hxj; have HNI : Hid (NoneB h1 oo1 x1 y1 h2 oo2 x2 y2 = NoneB h1 oo1 X1 Y1 h2 oo2 X2 Y2) := none_irrel HEQ.o.1 HEQ.o.2
   cases hnb : NoneB h1 oo1 x1 y1 h2 oo2 x2 y2
   ·have HTW : Hid (Two h1 oo1 x1 y1 h2 oo2 x2 y2) := ⟨HG.o.1, HG.o.2, hnb⟩; have HF : Hid (∀ p q u, Best h1 oo1 x1 y1 h2 oo2 x2 y2 p q → TextR p q u → ResS h1 o1 t1 h2 o2 t2 u) := fun p q u hbe htx => by
     refine ⟨q1_, q2_, HK1.o, HK2.o, .inl ⟨X1, Y1, X2, Y2, HRD.o.1, HRD.o.2, .inl ?_⟩⟩; rw [HOO1.o, HOO2.o]; exact ⟨by rw [← HNI.o]; exact hnb, p, q, hbe.irrel X1 Y1 X2 Y2 HEQ.o.1 HEQ.o.2, htx⟩
    clear hnb
    go_wp2_with fail
    refine (l2Best_any _ _ h1 oo1 x1 y1 h2 oo2 x2 y2 w3 (HI1.o.below HC3.o) (HI2.o.below HC3.o) HTW.o HLB.o).mono ?_; rintro e w4 ⟨z, p, q, rfl, hq, hbe, hb4⟩; have HQ := Hd hq; have HBE := Hd hbe; have HE4 : Hid (Up w w4) := HE3.o.trans (hb4.mono HE3.o.size); clear hq hbe hb4
    go_wp2_with fail
    refine (l2Told_any 0 _ p q _ (Nat.zero_le _) HQ.o).mono ?_; rintro e w5 ⟨u, rfl, hu, hb5⟩; have HRS := Hd (HF.o _ _ _ HBE.o hu); have HE5 : Hid (Up w w5) := HE4.o.trans (hb5.mono HE4.o.size); clear hu hb5
    go_wp2
    go_ret
    exact ⟨_, rfl, HRS.o, HE5.o⟩
   ·have HN : Hid (ResS h1 o1 t1 h2 o2 t2 ⟨#[]⟩) := by
     unfold Hid
     refine ⟨q1_, q2_, HK1.o, HK2.o, .inl ⟨X1, Y1, X2, Y2, HRD.o.1, HRD.o.2, .inr ?_⟩⟩; rw [HOO1.o, HOO2.o]; exact ⟨by rw [← HNI.o]; exact hnb, rfl⟩
    clear hnb
    go_wp2
    go_ret
    exact ⟨_, rfl, HN.o, HE3.o⟩
  ·have HN : Hid (ResS h1 o1 t1 h2 o2 t2 ⟨#[]⟩) := resS_no HK1.o HK2.o (HBAD.o (by first | rfl | trivial))
   go_wp2
   go_ret
   exact ⟨_, rfl, HN.o, HE1.o⟩
end Go.Proofs.YtfmpapcfhoomkaaGreatDoor
