import Derived.Test.YtfmpapcfhoomkaaGreatDoorSimOne
import Derived.Deep.QuietTactic
import Derived.BigQuiet
import Derived.Test.YtfmpapcfhoomkaaGreatDoorK2
import Derived.Test.YtfmpapcfhoomkaaGreatDoorRows
import Derived.Test.YtfmpapcfhoomkaaGreatDoorCards
import Derived.Test.YtfmpapcfhoomkaaGreatDoorTie
import Derived.Test.YtfmpapcfhoomkaaGreatDoorK3
import Derived.WalkKit
import Derived.ProofKit
import Derived.OpenShut
import Derived.ShutString
import Derived.ChangeOld
import Derived.ChangeVars
import Derived.Below
import Derived.WalkSmall
import Derived.LaidMore
import Derived.Lay
import Derived.Stop.Joined
import Derived.SevenTiedAt
namespace Go.Proofs.YtfmpapcfhoomkaaGreatDoor
open Go.ChangeShapes Go.WideShapes Go.ChangeAt Go.RowKit
theorem ym_undef (f : Bool → Option Bool) (g : Option Value → Option Bool) : Go.yielded.match_1 (fun _ => Option Bool) (some undef) f g = g (some undef) := rfl
attribute [local go_sem ↓] ym_undef
theorem numZ_nil (w : World) : NumZ 0 w (.agg #[.int .i64 0, .bool false, .slice none 0 0]) 0 1000 :=
 ⟨false, [], ⟨(by intro x hx; cases hx), trimL_trim [], .inr ⟨Nat.zero_le _, rfl⟩⟩, rfl, Nat.zero_le _⟩
theorem simN_pos {lo : Bool} {a b : Int} {has ho : Bool} {c d : Int} (h : Ends lo a b has ho c d) : 0 < simN lo a b ∧ simN lo a b ≤ a + 1 := by
 have ha := h.a0
 have hb := h.b0
 unfold simN
 split
 ·rename_i h1
  rcases h.pos with h2 | h2
  ·omega
  ·rw [h1.2] at h2; cases h2
 ·have h1 := Int.ediv_nonneg ha (Int.le_of_lt hb)
  have h2 : a / b ≤ a := Int.ediv_le_self b ha
  omega
theorem ord_simH {ho : Bool} {c d n : Int} : (decide (ordI (n * d) (c * 1) < 0) || (decide (ordI (n * d) (c * 1) = 0) && !ho)) = true ↔ simH ho c d n := by
 have h := @adm_hi true ho c d n
 unfold admB at h
 simpa using h
theorem putS_3_3 {W : World} {a0 a1 a2 : Addr} {v0 v1 v2 : Value} (m : W.cell? a0 = some v0 ∧ W.cell? a1 = some v1 ∧ W.cell? a2 = some v2) (g : Nat) (h : g ≠ a0.block ∧ g ≠ a1.block ∧ g ≠ a2.block) (u0 u1 u2 : Value) : (((W.setCell ⟨g, 0, none⟩ (u0)).setCell ⟨g, 1, none⟩ (u1)).setCell ⟨g, 2, none⟩ (u2)).cell? a0 = some v0 ∧ (((W.setCell ⟨g, 0, none⟩ (u0)).setCell ⟨g, 1, none⟩ (u1)).setCell ⟨g, 2, none⟩ (u2)).cell? a1 = some v1 ∧ (((W.setCell ⟨g, 0, none⟩ (u0)).setCell ⟨g, 1, none⟩ (u1)).setCell ⟨g, 2, none⟩ (u2)).cell? a2 = some v2 :=
 ⟨cell_farC3 g m.1 h.1 _ _ _, cell_farC3 g m.2.1 h.2.1 _ _ _, cell_farC3 g m.2.2 h.2.2 _ _ _⟩
theorem putS_11_8 {W : World} {a0 a1 a2 a3 a4 a5 a6 a7 a8 a9 a10 : Addr} {v0 v1 v2 v3 v4 v5 v6 v7 v8 v9 v10 : Value} (m : W.cell? a0 = some v0 ∧ W.cell? a1 = some v1 ∧ W.cell? a2 = some v2 ∧ W.cell? a3 = some v3 ∧ W.cell? a4 = some v4 ∧ W.cell? a5 = some v5 ∧ W.cell? a6 = some v6 ∧ W.cell? a7 = some v7 ∧ W.cell? a8 = some v8 ∧ W.cell? a9 = some v9 ∧ W.cell? a10 = some v10) (g : Nat) (h : g ≠ a0.block ∧ g ≠ a1.block ∧ g ≠ a2.block ∧ g ≠ a3.block ∧ g ≠ a4.block ∧ g ≠ a5.block ∧ g ≠ a6.block ∧ g ≠ a7.block ∧ g ≠ a8.block ∧ g ≠ a9.block ∧ g ≠ a10.block) (u0 u1 u2 u3 u4 u5 u6 u7 : Value) : ((((((((W.setCell ⟨g, 0, none⟩ (u0)).setCell ⟨g, 1, none⟩ (u1)).setCell ⟨g, 2, none⟩ (u2)).setCell ⟨g, 3, none⟩ (u3)).setCell ⟨g, 4, none⟩ (u4)).setCell ⟨g, 5, none⟩ (u5)).setCell ⟨g, 6, none⟩ (u6)).setCell ⟨g, 7, none⟩ (u7)).cell? a0 = some v0 ∧ ((((((((W.setCell ⟨g, 0, none⟩ (u0)).setCell ⟨g, 1, none⟩ (u1)).setCell ⟨g, 2, none⟩ (u2)).setCell ⟨g, 3, none⟩ (u3)).setCell ⟨g, 4, none⟩ (u4)).setCell ⟨g, 5, none⟩ (u5)).setCell ⟨g, 6, none⟩ (u6)).setCell ⟨g, 7, none⟩ (u7)).cell? a1 = some v1 ∧ ((((((((W.setCell ⟨g, 0, none⟩ (u0)).setCell ⟨g, 1, none⟩ (u1)).setCell ⟨g, 2, none⟩ (u2)).setCell ⟨g, 3, none⟩ (u3)).setCell ⟨g, 4, none⟩ (u4)).setCell ⟨g, 5, none⟩ (u5)).setCell ⟨g, 6, none⟩ (u6)).setCell ⟨g, 7, none⟩ (u7)).cell? a2 = some v2 ∧ ((((((((W.setCell ⟨g, 0, none⟩ (u0)).setCell ⟨g, 1, none⟩ (u1)).setCell ⟨g, 2, none⟩ (u2)).setCell ⟨g, 3, none⟩ (u3)).setCell ⟨g, 4, none⟩ (u4)).setCell ⟨g, 5, none⟩ (u5)).setCell ⟨g, 6, none⟩ (u6)).setCell ⟨g, 7, none⟩ (u7)).cell? a3 = some v3 ∧ ((((((((W.setCell ⟨g, 0, none⟩ (u0)).setCell ⟨g, 1, none⟩ (u1)).setCell ⟨g, 2, none⟩ (u2)).setCell ⟨g, 3, none⟩ (u3)).setCell ⟨g, 4, none⟩ (u4)).setCell ⟨g, 5, none⟩ (u5)).setCell ⟨g, 6, none⟩ (u6)).setCell ⟨g, 7, none⟩ (u7)).cell? a4 = some v4 ∧ ((((((((W.setCell ⟨g, 0, none⟩ (u0)).setCell ⟨g, 1, none⟩ (u1)).setCell ⟨g, 2, none⟩ (u2)).setCell ⟨g, 3, none⟩ (u3)).setCell ⟨g, 4, none⟩ (u4)).setCell ⟨g, 5, none⟩ (u5)).setCell ⟨g, 6, none⟩ (u6)).setCell ⟨g, 7, none⟩ (u7)).cell? a5 = some v5 ∧ ((((((((W.setCell ⟨g, 0, none⟩ (u0)).setCell ⟨g, 1, none⟩ (u1)).setCell ⟨g, 2, none⟩ (u2)).setCell ⟨g, 3, none⟩ (u3)).setCell ⟨g, 4, none⟩ (u4)).setCell ⟨g, 5, none⟩ (u5)).setCell ⟨g, 6, none⟩ (u6)).setCell ⟨g, 7, none⟩ (u7)).cell? a6 = some v6 ∧ ((((((((W.setCell ⟨g, 0, none⟩ (u0)).setCell ⟨g, 1, none⟩ (u1)).setCell ⟨g, 2, none⟩ (u2)).setCell ⟨g, 3, none⟩ (u3)).setCell ⟨g, 4, none⟩ (u4)).setCell ⟨g, 5, none⟩ (u5)).setCell ⟨g, 6, none⟩ (u6)).setCell ⟨g, 7, none⟩ (u7)).cell? a7 = some v7 ∧ ((((((((W.setCell ⟨g, 0, none⟩ (u0)).setCell ⟨g, 1, none⟩ (u1)).setCell ⟨g, 2, none⟩ (u2)).setCell ⟨g, 3, none⟩ (u3)).setCell ⟨g, 4, none⟩ (u4)).setCell ⟨g, 5, none⟩ (u5)).setCell ⟨g, 6, none⟩ (u6)).setCell ⟨g, 7, none⟩ (u7)).cell? a8 = some v8 ∧ ((((((((W.setCell ⟨g, 0, none⟩ (u0)).setCell ⟨g, 1, none⟩ (u1)).setCell ⟨g, 2, none⟩ (u2)).setCell ⟨g, 3, none⟩ (u3)).setCell ⟨g, 4, none⟩ (u4)).setCell ⟨g, 5, none⟩ (u5)).setCell ⟨g, 6, none⟩ (u6)).setCell ⟨g, 7, none⟩ (u7)).cell? a9 = some v9 ∧ ((((((((W.setCell ⟨g, 0, none⟩ (u0)).setCell ⟨g, 1, none⟩ (u1)).setCell ⟨g, 2, none⟩ (u2)).setCell ⟨g, 3, none⟩ (u3)).setCell ⟨g, 4, none⟩ (u4)).setCell ⟨g, 5, none⟩ (u5)).setCell ⟨g, 6, none⟩ (u6)).setCell ⟨g, 7, none⟩ (u7)).cell? a10 = some v10 :=
 ⟨cell_farC8 g m.1 h.1 _ _ _ _ _ _ _ _, cell_farC8 g m.2.1 h.2.1 _ _ _ _ _ _ _ _, cell_farC8 g m.2.2.1 h.2.2.1 _ _ _ _ _ _ _ _, cell_farC8 g m.2.2.2.1 h.2.2.2.1 _ _ _ _ _ _ _ _, cell_farC8 g m.2.2.2.2.1 h.2.2.2.2.1 _ _ _ _ _ _ _ _, cell_farC8 g m.2.2.2.2.2.1 h.2.2.2.2.2.1 _ _ _ _ _ _ _ _, cell_farC8 g m.2.2.2.2.2.2.1 h.2.2.2.2.2.2.1 _ _ _ _ _ _ _ _, cell_farC8 g m.2.2.2.2.2.2.2.1 h.2.2.2.2.2.2.2.1 _ _ _ _ _ _ _ _, cell_farC8 g m.2.2.2.2.2.2.2.2.1 h.2.2.2.2.2.2.2.2.1 _ _ _ _ _ _ _ _, cell_farC8 g m.2.2.2.2.2.2.2.2.2.1 h.2.2.2.2.2.2.2.2.2.1 _ _ _ _ _ _ _ _, cell_farC8 g m.2.2.2.2.2.2.2.2.2.2 h.2.2.2.2.2.2.2.2.2.2 _ _ _ _ _ _ _ _⟩
set_option maxRecDepth 100000 in
set_option maxHeartbeats 16000000 in
theorem l2Simple_any (N : Nat) : ∀ (lo : Bool) (a b : Int) (has ho : Bool) (c d : Int) (zl zh : Value) (w : World), (b + (if has then d else 0)).toNat ≤ N → IsES w zl true lo a b → IsES w zh has ho c d → Ends lo a b has ho c d →
    a.natAbs < lb 281 ∧ b.natAbs < lb 281 ∧ c.natAbs < lb 281 ∧ d.natAbs < lb 281 →
    Calls Tryz.prog 125 #[zl, zh] w fun e w' => ∃ z p q, e = .returned z ∧ IsQN 0 w' z p q ∧ Sim lo a b has ho c d p q ∧ Below w.heap.size w w' := by
  induction N with
  | zero =>
    intro lo a b has ho c d zl zh w hN _ _ hE
    exfalso
    have h1 := hE.b0
    have h2 : 0 ≤ (if has then d else 0) := by
      cases has with
      | false => exact Int.le_refl _
      | true => exact Int.le_of_lt (hE.hi rfl).1
    omega
  | succ N ih =>
    intro lo a b has ho c d zl zh w hN hl hh hE hlb
    have IH := hidG ih
    have HN := hidG hN
    have HE := hidG hE
    have HLB := hidG hlb
    obtain ⟨a1, n1, d1, l1, c1, a2, n2, d2, l2, c2, rfl, i1, i2⟩ := hl
    obtain ⟨a3, n3, d3, l3, c3, a4, n4, d4, l4, c4, rfl, i3, i4⟩ := hh
    have H1 := hidG i1
    have H2 := hidG i2
    have H3 := hidG i3
    have H4 := hidG i4
    have HBP : Hid (0 < b) := hE.b0
    clear ih hN hE hlb i1 i2 i3 i4
    obtain ⟨W0, hW0⟩ : ∃ W0, ((w.alloc (.cells #[.bool true, .bool lo, .int .i64 a1, .bool n1, .slice d1 l1 c1, .int .i64 a2, .bool n2, .slice d2 l2 c2] 88)).alloc (.cells #[.bool has, .bool ho, .int .i64 a3, .bool n3, .slice d3 l3 c3, .int .i64 a4, .bool n4, .slice d4 l4 c4] 88)).alloc (.cells #[.int .i64 0, .bool false, .slice none 0 0, .int .i64 0, .bool false, .slice none 0 0] 70) = W0 := ⟨_, rfl⟩
    have HW0 := hidG hW0
    have HB0 : Hid (Below w.heap.size w W0) := by show Below w.heap.size w W0; rw [← hW0]; exact below_al (below_al (below_alloc _ _) _) _
    have HS0 : Hid (W0.heap.size = w.heap.size + 3) := by show W0.heap.size = _; rw [← hW0]; simp
    have hx0_0 : Bx W0 (w.heap.size) [.bool true, .bool lo, .int .i64 a1, .bool n1, .slice d1 l1 c1, .int .i64 a2, .bool n2, .slice d2 l2 c2] := by
      rw [← hW0]
      exact ((bx_new w _ _).alloc _).alloc _
    have hx0_1 : Bx W0 (w.heap.size + 1) [.bool has, .bool ho, .int .i64 a3, .bool n3, .slice d3 l3 c3, .int .i64 a4, .bool n4, .slice d4 l4 c4] := by
      rw [← hW0]
      have h := bx_new (w.alloc (.cells #[.bool true, .bool lo, .int .i64 a1, .bool n1, .slice d1 l1 c1, .int .i64 a2, .bool n2, .slice d2 l2 c2] 88)) [.bool has, .bool ho, .int .i64 a3, .bool n3, .slice d3 l3 c3, .int .i64 a4, .bool n4, .slice d4 l4 c4] 88
      rw [World.size_alloc] at h
      exact (h).alloc _
    have hx0_2 : Bx W0 (w.heap.size + 1 + 1) [.int .i64 0, .bool false, .slice none 0 0, .int .i64 0, .bool false, .slice none 0 0] := by
      rw [← hW0]
      have h := bx_new ((w.alloc (.cells #[.bool true, .bool lo, .int .i64 a1, .bool n1, .slice d1 l1 c1, .int .i64 a2, .bool n2, .slice d2 l2 c2] 88)).alloc (.cells #[.bool has, .bool ho, .int .i64 a3, .bool n3, .slice d3 l3 c3, .int .i64 a4, .bool n4, .slice d4 l4 c4] 88)) [.int .i64 0, .bool false, .slice none 0 0, .int .i64 0, .bool false, .slice none 0 0] 70
      rw [World.size_alloc, World.size_alloc] at h
      exact h
    have HX0 : Hid (∀ W, Below W0.heap.size W0 W → Bx W (w.heap.size) [.bool true, .bool lo, .int .i64 a1, .bool n1, .slice d1 l1 c1, .int .i64 a2, .bool n2, .slice d2 l2 c2] ∧ Bx W (w.heap.size + 1) [.bool has, .bool ho, .int .i64 a3, .bool n3, .slice d3 l3 c3, .int .i64 a4, .bool n4, .slice d4 l4 c4] ∧ Bx W (w.heap.size + 1 + 1) [.int .i64 0, .bool false, .slice none 0 0, .int .i64 0, .bool false, .slice none 0 0]) := fun W hW => ⟨hx0_0.below hx0_0.lt hW, hx0_1.below hx0_1.lt hW, hx0_2.below hx0_2.lt hW⟩
    clear hW0 hx0_0 hx0_1 hx0_2
    go_enter Tryz.func125, Tryz.ntmps125
    go_upto_region 1 with fail
    rw [HW0.out]
    go_wp2_with fail
    refine (l1Small_any 1 W0 (by decide) (by decide)).mono ?_
    rintro e w1 ⟨z5, rfl, hz5, hb1⟩
    obtain ⟨a5, n5, d5, l5, c5, rfl⟩ := hz5.shape'
    have HC1 : Hid (Below W0.heap.size W0 w1) := hb1
    clear hz5 hb1
    obtain ⟨W1, hW1⟩ : ∃ W1, w1.alloc (.cells #[.int .i64 a5, .bool n5, .slice d5 l5 c5] 54) = W1 := ⟨_, rfl⟩
    have HW1 := hidG hW1
    have HB1 : Hid (Below w1.heap.size w1 W1) := by show Below w1.heap.size w1 W1; rw [← hW1]; exact below_alloc _ _
    have HS1 : Hid (W1.heap.size = w1.heap.size + 1) := by show W1.heap.size = _; rw [← hW1]; simp
    have hx1_0 : Bx W1 (w1.heap.size) [.int .i64 a5, .bool n5, .slice d5 l5 c5] := by
      rw [← hW1]
      exact bx_new w1 _ _
    have HX1 : Hid (∀ W, Below W1.heap.size W1 W → Bx W (w1.heap.size) [.int .i64 a5, .bool n5, .slice d5 l5 c5]) := fun W hW => hx1_0.below hx1_0.lt hW
    have HA1 : Hid (Below W0.heap.size W0 W1) := HC1.out.trans (HB1.out.mono HC1.out.size)
    have hlt1 : w.heap.size + 2 < w1.heap.size := by have := HC1.out.size; have := HS0.out; omega
    have hxb := (HX0.out W1 HA1.out).1
    have k0 := hxb.cell 0
    have k1 := hxb.cell 1
    have k2 := hxb.cell 2
    have k3 := hxb.cell 3
    have k4 := hxb.cell 4
    have k5 := hxb.cell 5
    have k6 := hxb.cell 6
    have k7 := hxb.cell 7
    simp only [List.getElem?_cons_zero, List.getElem?_cons_succ] at k0 k1 k2 k3 k4 k5 k6 k7
    clear hW1 hx1_0 hxb
    go_upto_region 2 with fail
    rw [HW1.out]
    go_wp2_with fail
    refine (l2Floor_any 0 _ a b W1 (Nat.zero_le _) (qn_mk ((H1.out.below HB0.out).below HA1.out) ((H2.out.below HB0.out).below HA1.out)) (Int.ne_of_gt HBP.out)).mono ?_
    rintro e w2 ⟨z6, f, r, rfl, hz6, hdv, hb2⟩
    have hf := isDiv_ediv hdv HBP.out
    have hfl : f.natAbs < lb 281 := by
      have e0 := HE.out.a0
      have e1 : a / b ≤ a := Int.ediv_le_self b e0
      have e2 := Int.ediv_nonneg e0 (Int.le_of_lt HBP.out)
      have e3 := HLB.out.1
      rw [hf]
      omega
    have hz6 := numZ_lt hz6 (lb_le 281 1000 (by decide) hfl)
    obtain ⟨a6, n6, d6, l6, c6, rfl⟩ := hz6.shape'
    have HFV := hidG hf
    have HFL := hidG hfl
    have HC2 : Hid (Below W1.heap.size W1 w2) := hb2
    have hx5 := HX1.out w2 hb2
    have hnR : NoInt w2 w1.heap.size := noInt_of hx5 (by simp)
    have HKK := keepsC3 w2 w1.heap.size (.int .i64 a6) (.bool n6) (.slice d6 l6 c6)
    have hF3 := hz6.keeps hnR hnR HKK
    have hA3 : Below W0.heap.size W0 (((w2.setCell ⟨w1.heap.size, 0, none⟩ (.int .i64 a6)).setCell ⟨w1.heap.size, 1, none⟩ (.bool n6)).setCell ⟨w1.heap.size, 2, none⟩ (.slice d6 l6 c6)) := ((((HA1.out.trans (hb2.mono HA1.out.size)).setCell (p := ⟨w1.heap.size, 0, none⟩) (by dsimp only; have := HC1.out.size; omega) (.int .i64 a6)).setCell (p := ⟨w1.heap.size, 1, none⟩) (by dsimp only; have := HC1.out.size; omega) (.bool n6)).setCell (p := ⟨w1.heap.size, 2, none⟩) (by dsimp only; have := HC1.out.size; omega) (.slice d6 l6 c6))
    have hX3 : Bx (((w2.setCell ⟨w1.heap.size, 0, none⟩ (.int .i64 a6)).setCell ⟨w1.heap.size, 1, none⟩ (.bool n6)).setCell ⟨w1.heap.size, 2, none⟩ (.slice d6 l6 c6)) w1.heap.size [.int .i64 a6, .bool n6, .slice d6 l6 c6] := (((hx5.set 0 (.int .i64 a6)).set 1 (.bool n6)).set 2 (.slice d6 l6 c6))
    obtain ⟨W3, hW3⟩ : ∃ W3, ((w2.setCell ⟨w1.heap.size, 0, none⟩ (.int .i64 a6)).setCell ⟨w1.heap.size, 1, none⟩ (.bool n6)).setCell ⟨w1.heap.size, 2, none⟩ (.slice d6 l6 c6) = W3 := ⟨_, rfl⟩
    rw [hW3] at hF3 hA3 hX3
    have HW3 := hidG hW3
    have HF3 := hidG hF3
    have HA3 := hidG hA3
    have HX3 := hidG hX3
    have m0 := hx5.cell 0
    have m1 := hx5.cell 1
    have m2 := hx5.cell 2
    simp only [List.getElem?_cons_zero, List.getElem?_cons_succ] at m0 m1 m2
    have mf0 := hx5.frozen 0
    have mf1 := hx5.frozen 1
    have mf2 := hx5.frozen 2
    clear hf hfl hz6 hdv hb2 hx5 hnR HKK hF3 hA3 hX3 hW3 k0 k1 k2 k3 k4 k5 k6 k7
    have hxb := (HX0.out W3 HA3.out).1
    have k0 := hxb.cell 0
    have k1 := hxb.cell 1
    have k2 := hxb.cell 2
    have k3 := hxb.cell 3
    have k4 := hxb.cell 4
    have k5 := hxb.cell 5
    have k6 := hxb.cell 6
    have k7 := hxb.cell 7
    simp only [List.getElem?_cons_zero, List.getElem?_cons_succ] at k0 k1 k2 k3 k4 k5 k6 k7
    clear hxb
    go_upto_region 4 with fail
    rw [HW3.out]
    go_cut [23, 49] (fun q23 q49 wx => q23 = .bool (!decide (b = 1 ∧ lo = false)) ∧ q49 = undef ∧ Below W3.heap.size W3 wx)
    case first =>
      cases lo
      · go_wp2_with fail
        refine (l2Whole_any 0 _ a b _ (Nat.zero_le _) (qn_mk ((H1.out.below HB0.out).below HA3.out) ((H2.out.below HB0.out).below HA3.out))).mono ?_
        rintro e wx ⟨rfl, hbx⟩
        have HBX := hidG hbx
        have HD : Hid ((!decide (b = 1 ∧ false = false)) = !decide (b = 1)) := by show _ = _; simp
        clear hbx
        go_wp2_with fail
        go_meet
        exact ⟨by rw [HD.out], rfl, HBX.out⟩
      · go_wp2_with fail
        go_meet
        exact ⟨by simp, rfl, Below.refl _ _⟩
    case rest =>
      obtain ⟨rfl, rfl, hbc⟩ := hcut
      obtain ⟨wd, rfl⟩ : ∃ wd, wd = wc := ⟨_, rfl⟩
      have HC4 : Hid (Below W3.heap.size W3 wd) := hbc
      have HA4 : Hid (Below W0.heap.size W0 wd) := HA3.out.trans (hbc.mono HA3.out.size)
      have HF4 := hidG (HF3.out.below hbc)
      have HX4 := hidG (HX3.out.below HX3.out.lt hbc)
      clear hbc k0 k1 k2 k3 k4 k5 k6 k7
      have hx4 := HX4.out
      have y0 := hx4.cell 0
      have y1 := hx4.cell 1
      have y2 := hx4.cell 2
      simp only [List.getElem?_cons_zero, List.getElem?_cons_succ] at y0 y1 y2
      clear hx4
      go_upto_if 23 with fail
      go_cut [49] (fun q49 wx => q49 = undef ∧ ∃ (a7 : Int) (n7 : Bool) (d7 : Option Addr) (l7 c7 : Nat), Bx wx w1.heap.size [.int .i64 a7, .bool n7, .slice d7 l7 c7] ∧ NumZ 0 wx (.agg #[.int .i64 a7, .bool n7, .slice d7 l7 c7]) (simN lo a b) 1000 ∧ Below W0.heap.size W0 wx)
      case first =>
        by_cases hq : b = 1 ∧ lo = false
        · rw [decide_eq_true hq]
          have HSN : Hid (simN lo a b = f) := by
            show simN lo a b = f
            unfold simN
            rw [if_pos hq, HFV.out, hq.1, Int.ediv_one]
          clear hq
          go_wp2_with fail
          go_meet
          exact ⟨rfl, _, _, _, _, _, HX4.out, by rw [HSN.out]; exact HF4.out, HA4.out⟩
        · rw [decide_eq_false hq]
          have HSN : Hid (simN lo a b = f + 1) := by
            show simN lo a b = f + 1
            unfold simN
            rw [if_neg hq, HFV.out]
          clear hq
          go_wp2_with fail
          go_region_with (first
            | (go_at_call 67
               refine (l1Small_any 1 _ (by decide) (by decide)).mono ?_
               rintro e wt1 ⟨u1, rfl, hu, hb⟩
               have HU1 := hidG (hu.mono' (B' := 0) (n' := 1000) (Nat.zero_le _) (by decide))
               have HQ1 : Hid (Below wd.heap.size wd wt1) := (Below.refl _ wd).drew.trans hb
               have hxa := HX4.out.below HX4.out.lt HQ1.out
               have q0 := hxa.cell 0
               have q1 := hxa.cell 1
               have q2 := hxa.cell 2
               simp only [List.getElem?_cons_zero, List.getElem?_cons_succ] at q0 q1 q2
               clear hu hb hxa)
            | (go_at_call 44
               refine (l1AddN_any 0 _ _ f 1 1000 1000 _ (Nat.zero_le _) (HF4.out.below HQ1.out) HU1.out (by decide) (by decide)).mono ?_
               rintro e wm ⟨u2, rfl, hu, hb⟩
               have hu := numZ_lt hu (k := 1000) (by
                 have e1 := lb_add 281 HFL.out (lb_one 281 (by decide))
                 have e2 : (f + 1).natAbs ≤ f.natAbs + 1 := Int.natAbs_add_le f 1
                 exact lb_le 282 1000 (by decide) (Nat.lt_of_le_of_lt e2 e1))
               obtain ⟨a7, n7, d7, l7, c7, rfl⟩ := hu.shape'
               have HU2 := hidG hu
               have HQM : Hid (Below wd.heap.size wd wm) := HQ1.out.trans (hb.mono HQ1.out.size)
               have hxa := HX4.out.below HX4.out.lt HQM.out
               have r0 := hxa.cell 0
               have r1 := hxa.cell 1
               have r2 := hxa.cell 2
               simp only [List.getElem?_cons_zero, List.getElem?_cons_succ] at r0 r1 r2
               have rf0 := hxa.frozen 0
               have rf1 := hxa.frozen 1
               have rf2 := hxa.frozen 2
               clear hu hb hxa))
          all_goals
            go_wp2_with fail
            go_meet
            have hxa := HX4.out.below HX4.out.lt HQM.out
            have hnR : NoInt wm w1.heap.size := noInt_of hxa (by simp)
            exact ⟨rfl, _, _, _, _, _, (((hxa.set 0 (.int .i64 a7)).set 1 (.bool n7)).set 2 (.slice d7 l7 c7)), by rw [HSN.out]; exact HU2.out.keeps hnR hnR (keepsC3 wm w1.heap.size (.int .i64 a7) (.bool n7) (.slice d7 l7 c7)), ((((HA4.out.trans (HQM.out.mono HA4.out.size)).setCell (p := ⟨w1.heap.size, 0, none⟩) (by dsimp only; have := HC1.out.size; omega) (.int .i64 a7)).setCell (p := ⟨w1.heap.size, 1, none⟩) (by dsimp only; have := HC1.out.size; omega) (.bool n7)).setCell (p := ⟨w1.heap.size, 2, none⟩) (by dsimp only; have := HC1.out.size; omega) (.slice d7 l7 c7))⟩
      case rest =>
        obtain ⟨rfl, a7, n7, d7, l7, c7, hX5, hN5, hA5⟩ := hcut
        obtain ⟨W5, rfl⟩ : ∃ W5, W5 = wc := ⟨_, rfl⟩
        have HA5 := hidG hA5
        have HN5 := hidG hN5
        have HX5 := hidG hX5
        clear hA5 hN5 hX5 y0 y1 y2
        obtain ⟨nn, hnn⟩ : ∃ nn, simN lo a b = nn := ⟨_, rfl⟩
        rw [hnn] at HN5
        have HSN := hidG hnn
        clear hnn
        have hx6 := HX5.out
        have g0 := hx6.cell 0
        have g1 := hx6.cell 1
        have g2 := hx6.cell 2
        simp only [List.getElem?_cons_zero, List.getElem?_cons_succ] at g0 g1 g2
        clear hx6
        go_wp2_with fail
        refine (l1Sign_any 0 _ (nn) 1000 W5 (Nat.zero_le _) HN5.out).mono ?_
        rintro e w6 ⟨rfl, hb6⟩
        have HPOS : Hid (ordI (nn) 0 = 1) := by
          show ordI (nn) 0 = 1
          have := (simN_pos HE.out).1
          rw [HSN.out] at this
          unfold ordI
          rw [if_neg (by omega), if_pos this]
        rw [HPOS.out]
        have HA6 : Hid (Below W0.heap.size W0 w6) := HA5.out.trans (hb6.mono HA5.out.size)
        have HV6 := hidG (HN5.out.below hb6)
        have HX6 := hidG (HX5.out.below HX5.out.lt hb6)
        have hz6 : w1.heap.size < w6.heap.size := HX6.out.lt
        clear hb6 g0 g1 g2
        have hx6 := HX6.out
        have hx1 := (HX0.out w6 HA6.out).2.1
        have g0 := hx6.cell 0
        have g1 := hx6.cell 1
        have g2 := hx6.cell 2
        simp only [List.getElem?_cons_zero, List.getElem?_cons_succ] at g0 g1 g2
        have j0 := hx1.cell 0
        have j1 := hx1.cell 1
        have j2 := hx1.cell 2
        have j3 := hx1.cell 3
        have j4 := hx1.cell 4
        have j5 := hx1.cell 5
        have j6 := hx1.cell 6
        have j7 := hx1.cell 7
        simp only [List.getElem?_cons_zero, List.getElem?_cons_succ] at j0 j1 j2 j3 j4 j5 j6 j7
        clear hx6 hx1
        have TO : Hid (∀ W, Below w6.heap.size w6 W → Calls Tryz.prog 114 #[.agg #[.int .i64 a7, .bool n7, .slice d7 l7 c7]] W (fun e w' => ∃ z, e = .returned z ∧ IsQN 0 w' z (nn) 1 ∧ Below W.heap.size W w')) := fun W hW => l2OfZ_any 0 _ _ _ _ _ (nn) W (Nat.zero_le _) (HV6.out.below hW)
        go_upto_region 8 with fail
        go_cut [54] (fun q54 wx => q54 = .bool (!has || (decide (ordI ((nn) * d) (c * 1) < 0) || (decide (ordI ((nn) * d) (c * 1) = 0) && !ho))) ∧ Below w6.heap.size w6 wx)
        case first =>
          cases has
          · go_wp2_with fail
            go_quiet (fail)
            all_goals
              go_wp2_with fail
              go_meet
              exact ⟨rfl, below_drewN (Below.refl _ _) _⟩
          · obtain ⟨r, hr⟩ : ∃ r, ordI ((nn) * d) (c * 1) = r := ⟨_, rfl⟩
            have h3 := ordI_three ((nn) * d) (c * 1)
            have TC : Hid (∀ W z, Below w6.heap.size w6 W → IsQN 0 W z (nn) 1 → Calls Tryz.prog 78 #[z, .agg #[.int .i64 a3, .bool n3, .slice d3 l3 c3, .int .i64 a4, .bool n4, .slice d4 l4 c4]] W (fun e w' => e = .returned (.int .i64 r) ∧ Below W.heap.size W w')) := fun W z hW hz => by
              rw [← hr]
              exact l2Cmp_any 0 z _ (nn) 1 c d W (Nat.zero_le _) hz (qn_mk (((H3.out.below HB0.out).below HA6.out).below hW) (((H4.out.below HB0.out).below HA6.out).below hW))
            rw [hr] at h3
            have HRR := hidG hr
            clear hr
            have HCUT : Hid (∀ wx, Below w6.heap.size w6 wx → (.bool (!true || (decide (r < 0) || (decide (r = 0) && !ho))) : Value) = .bool (!true || (decide (ordI ((nn) * d) (c * 1) < 0) || (decide (ordI ((nn) * d) (c * 1) = 0) && !ho))) ∧ Below w6.heap.size w6 wx) := fun wx h => ⟨by rw [HRR.out], h⟩
            rcases h3 with rfl | rfl | rfl
            · go_wp2_with fail
              first
              | (go_region_with (first
                | (go_at_call 114
                   refine (TO.out _ HQ2.out).mono ?_
                   rintro e wt3 ⟨u3, rfl, hu, hb⟩
                   have HU3 := hidG hu
                   have HQ3 : Hid (Below w6.heap.size w6 wt3) := HQ2.out.trans (hb.mono HQ2.out.size)
                   have hxa := (HX0.out wt3 (HA6.out.trans (HQ3.out.mono HA6.out.size))).2.1
                   have hxc := HX6.out.below HX6.out.lt HQ3.out
                   have p0 := hxa.cell 0
                   have p1 := hxa.cell 1
                   have p2 := hxa.cell 2
                   have p3 := hxa.cell 3
                   have p4 := hxa.cell 4
                   have p5 := hxa.cell 5
                   have p6 := hxa.cell 6
                   have p7 := hxa.cell 7
                   simp only [List.getElem?_cons_zero, List.getElem?_cons_succ] at p0 p1 p2 p3 p4 p5 p6 p7
                   have zp0 := hxc.cell 0
                   have zp1 := hxc.cell 1
                   have zp2 := hxc.cell 2
                   simp only [List.getElem?_cons_zero, List.getElem?_cons_succ] at zp0 zp1 zp2
                   clear hxa hxc
                   clear hu hb)
                | (go_at_call 114
                   refine (TO.out _ ?_).mono ?_
                   · exact (Below.refl _ w6).drew
                   rintro e wt1 ⟨u1, rfl, hu, hb⟩
                   have HU1 := hidG hu
                   have HQ1 : Hid (Below w6.heap.size w6 wt1) := (Below.refl _ w6).drew.trans hb
                   have hxa := (HX0.out wt1 (HA6.out.trans (HQ1.out.mono HA6.out.size))).2.1
                   have hxc := HX6.out.below HX6.out.lt HQ1.out
                   have s0 := hxa.cell 0
                   have s1 := hxa.cell 1
                   have s2 := hxa.cell 2
                   have s3 := hxa.cell 3
                   have s4 := hxa.cell 4
                   have s5 := hxa.cell 5
                   have s6 := hxa.cell 6
                   have s7 := hxa.cell 7
                   simp only [List.getElem?_cons_zero, List.getElem?_cons_succ] at s0 s1 s2 s3 s4 s5 s6 s7
                   have zs0 := hxc.cell 0
                   have zs1 := hxc.cell 1
                   have zs2 := hxc.cell 2
                   simp only [List.getElem?_cons_zero, List.getElem?_cons_succ] at zs0 zs1 zs2
                   clear hxa hxc
                   clear hu hb)
                | (go_at_call 78
                   refine (TC.out _ _ HQ3.out HU3.out).mono ?_
                   rintro e wt4 ⟨rfl, hb⟩
                   have HQ4 : Hid (Below w6.heap.size w6 wt4) := HQ3.out.trans (hb.mono HQ3.out.size)
                   have hxa := (HX0.out wt4 (HA6.out.trans (HQ4.out.mono HA6.out.size))).2.1
                   have hxc := HX6.out.below HX6.out.lt HQ4.out
                   have t0 := hxa.cell 0
                   have t1 := hxa.cell 1
                   have t2 := hxa.cell 2
                   have t3 := hxa.cell 3
                   have t4 := hxa.cell 4
                   have t5 := hxa.cell 5
                   have t6 := hxa.cell 6
                   have t7 := hxa.cell 7
                   simp only [List.getElem?_cons_zero, List.getElem?_cons_succ] at t0 t1 t2 t3 t4 t5 t6 t7
                   have zt0 := hxc.cell 0
                   have zt1 := hxc.cell 1
                   have zt2 := hxc.cell 2
                   simp only [List.getElem?_cons_zero, List.getElem?_cons_succ] at zt0 zt1 zt2
                   clear hxa hxc
                   clear hb)
                | (go_at_call 78
                   refine (TC.out _ _ HQ1.out HU1.out).mono ?_
                   rintro e wt2 ⟨rfl, hb⟩
                   have HQ2 : Hid (Below w6.heap.size w6 wt2) := HQ1.out.trans (hb.mono HQ1.out.size)
                   have hxa := (HX0.out wt2 (HA6.out.trans (HQ2.out.mono HA6.out.size))).2.1
                   have hxc := HX6.out.below HX6.out.lt HQ2.out
                   have u0 := hxa.cell 0
                   have u1 := hxa.cell 1
                   have u2 := hxa.cell 2
                   have u3 := hxa.cell 3
                   have u4 := hxa.cell 4
                   have u5 := hxa.cell 5
                   have u6 := hxa.cell 6
                   have u7 := hxa.cell 7
                   simp only [List.getElem?_cons_zero, List.getElem?_cons_succ] at u0 u1 u2 u3 u4 u5 u6 u7
                   have zu0 := hxc.cell 0
                   have zu1 := hxc.cell 1
                   have zu2 := hxc.cell 2
                   simp only [List.getElem?_cons_zero, List.getElem?_cons_succ] at zu0 zu1 zu2
                   clear hxa hxc
                   clear hb)))
              | fail "no way"
              all_goals
                go_wp2_with fail
                go_meet
                first
                  | exact HCUT.out _ HQ4.out
                  | exact HCUT.out _ HQ2.out
            · go_wp2_with fail
              first
              | (go_region_held3 (fun W => W.cell? ⟨w.heap.size + 1, 0, none⟩ = some (.bool true) ∧ W.cell? ⟨w.heap.size + 1, 1, none⟩ = some (.bool ho) ∧ W.cell? ⟨w.heap.size + 1, 2, none⟩ = some (.int .i64 a3) ∧ W.cell? ⟨w.heap.size + 1, 3, none⟩ = some (.bool n3) ∧ W.cell? ⟨w.heap.size + 1, 4, none⟩ = some (.slice d3 l3 c3) ∧ W.cell? ⟨w.heap.size + 1, 5, none⟩ = some (.int .i64 a4) ∧ W.cell? ⟨w.heap.size + 1, 6, none⟩ = some (.bool n4) ∧ W.cell? ⟨w.heap.size + 1, 7, none⟩ = some (.slice d4 l4 c4) ∧ W.cell? ⟨w1.heap.size, 0, none⟩ = some (.int .i64 a7) ∧ W.cell? ⟨w1.heap.size, 1, none⟩ = some (.bool n7) ∧ W.cell? ⟨w1.heap.size, 2, none⟩ = some (.slice d7 l7 c7)) (first | with_reducible assumption | go_keep) (first
                | (go_at_call 114
                   refine (TO.out _ HQ2.out).mono ?_
                   rintro e wt3 ⟨u3, rfl, hu, hb⟩
                   have HU3 := hidG hu
                   have HQ3 : Hid (Below w6.heap.size w6 wt3) := HQ2.out.trans (hb.mono HQ2.out.size)
                   have hxa := (HX0.out wt3 (HA6.out.trans (HQ3.out.mono HA6.out.size))).2.1
                   have hxc := HX6.out.below HX6.out.lt HQ3.out
                   have hSwt3 : wt3.cell? ⟨w.heap.size + 1, 0, none⟩ = some (.bool true) ∧ wt3.cell? ⟨w.heap.size + 1, 1, none⟩ = some (.bool ho) ∧ wt3.cell? ⟨w.heap.size + 1, 2, none⟩ = some (.int .i64 a3) ∧ wt3.cell? ⟨w.heap.size + 1, 3, none⟩ = some (.bool n3) ∧ wt3.cell? ⟨w.heap.size + 1, 4, none⟩ = some (.slice d3 l3 c3) ∧ wt3.cell? ⟨w.heap.size + 1, 5, none⟩ = some (.int .i64 a4) ∧ wt3.cell? ⟨w.heap.size + 1, 6, none⟩ = some (.bool n4) ∧ wt3.cell? ⟨w.heap.size + 1, 7, none⟩ = some (.slice d4 l4 c4) ∧ wt3.cell? ⟨w1.heap.size, 0, none⟩ = some (.int .i64 a7) ∧ wt3.cell? ⟨w1.heap.size, 1, none⟩ = some (.bool n7) ∧ wt3.cell? ⟨w1.heap.size, 2, none⟩ = some (.slice d7 l7 c7) := ⟨hxa.cell 0, hxa.cell 1, hxa.cell 2, hxa.cell 3, hxa.cell 4, hxa.cell 5, hxa.cell 6, hxa.cell 7, hxc.cell 0, hxc.cell 1, hxc.cell 2⟩
                   clear hxa hxc
                   clear hu hb)
                | (go_at_call 114
                   refine (TO.out _ ?_).mono ?_
                   · exact (Below.refl _ w6).drew
                   rintro e wt1 ⟨u1, rfl, hu, hb⟩
                   have HU1 := hidG hu
                   have HQ1 : Hid (Below w6.heap.size w6 wt1) := (Below.refl _ w6).drew.trans hb
                   have hxa := (HX0.out wt1 (HA6.out.trans (HQ1.out.mono HA6.out.size))).2.1
                   have hxc := HX6.out.below HX6.out.lt HQ1.out
                   have hSwt1 : wt1.cell? ⟨w.heap.size + 1, 0, none⟩ = some (.bool true) ∧ wt1.cell? ⟨w.heap.size + 1, 1, none⟩ = some (.bool ho) ∧ wt1.cell? ⟨w.heap.size + 1, 2, none⟩ = some (.int .i64 a3) ∧ wt1.cell? ⟨w.heap.size + 1, 3, none⟩ = some (.bool n3) ∧ wt1.cell? ⟨w.heap.size + 1, 4, none⟩ = some (.slice d3 l3 c3) ∧ wt1.cell? ⟨w.heap.size + 1, 5, none⟩ = some (.int .i64 a4) ∧ wt1.cell? ⟨w.heap.size + 1, 6, none⟩ = some (.bool n4) ∧ wt1.cell? ⟨w.heap.size + 1, 7, none⟩ = some (.slice d4 l4 c4) ∧ wt1.cell? ⟨w1.heap.size, 0, none⟩ = some (.int .i64 a7) ∧ wt1.cell? ⟨w1.heap.size, 1, none⟩ = some (.bool n7) ∧ wt1.cell? ⟨w1.heap.size, 2, none⟩ = some (.slice d7 l7 c7) := ⟨hxa.cell 0, hxa.cell 1, hxa.cell 2, hxa.cell 3, hxa.cell 4, hxa.cell 5, hxa.cell 6, hxa.cell 7, hxc.cell 0, hxc.cell 1, hxc.cell 2⟩
                   clear hxa hxc
                   clear hu hb)
                | (go_at_call 78
                   refine (TC.out _ _ HQ3.out HU3.out).mono ?_
                   rintro e wt4 ⟨rfl, hb⟩
                   have HQ4 : Hid (Below w6.heap.size w6 wt4) := HQ3.out.trans (hb.mono HQ3.out.size)
                   have hxa := (HX0.out wt4 (HA6.out.trans (HQ4.out.mono HA6.out.size))).2.1
                   have hxc := HX6.out.below HX6.out.lt HQ4.out
                   have hSwt4 : wt4.cell? ⟨w.heap.size + 1, 0, none⟩ = some (.bool true) ∧ wt4.cell? ⟨w.heap.size + 1, 1, none⟩ = some (.bool ho) ∧ wt4.cell? ⟨w.heap.size + 1, 2, none⟩ = some (.int .i64 a3) ∧ wt4.cell? ⟨w.heap.size + 1, 3, none⟩ = some (.bool n3) ∧ wt4.cell? ⟨w.heap.size + 1, 4, none⟩ = some (.slice d3 l3 c3) ∧ wt4.cell? ⟨w.heap.size + 1, 5, none⟩ = some (.int .i64 a4) ∧ wt4.cell? ⟨w.heap.size + 1, 6, none⟩ = some (.bool n4) ∧ wt4.cell? ⟨w.heap.size + 1, 7, none⟩ = some (.slice d4 l4 c4) ∧ wt4.cell? ⟨w1.heap.size, 0, none⟩ = some (.int .i64 a7) ∧ wt4.cell? ⟨w1.heap.size, 1, none⟩ = some (.bool n7) ∧ wt4.cell? ⟨w1.heap.size, 2, none⟩ = some (.slice d7 l7 c7) := ⟨hxa.cell 0, hxa.cell 1, hxa.cell 2, hxa.cell 3, hxa.cell 4, hxa.cell 5, hxa.cell 6, hxa.cell 7, hxc.cell 0, hxc.cell 1, hxc.cell 2⟩
                   clear hxa hxc
                   clear hb)
                | (go_at_call 78
                   refine (TC.out _ _ HQ1.out HU1.out).mono ?_
                   rintro e wt2 ⟨rfl, hb⟩
                   have HQ2 : Hid (Below w6.heap.size w6 wt2) := HQ1.out.trans (hb.mono HQ1.out.size)
                   have hxa := (HX0.out wt2 (HA6.out.trans (HQ2.out.mono HA6.out.size))).2.1
                   have hxc := HX6.out.below HX6.out.lt HQ2.out
                   have hSwt2 : wt2.cell? ⟨w.heap.size + 1, 0, none⟩ = some (.bool true) ∧ wt2.cell? ⟨w.heap.size + 1, 1, none⟩ = some (.bool ho) ∧ wt2.cell? ⟨w.heap.size + 1, 2, none⟩ = some (.int .i64 a3) ∧ wt2.cell? ⟨w.heap.size + 1, 3, none⟩ = some (.bool n3) ∧ wt2.cell? ⟨w.heap.size + 1, 4, none⟩ = some (.slice d3 l3 c3) ∧ wt2.cell? ⟨w.heap.size + 1, 5, none⟩ = some (.int .i64 a4) ∧ wt2.cell? ⟨w.heap.size + 1, 6, none⟩ = some (.bool n4) ∧ wt2.cell? ⟨w.heap.size + 1, 7, none⟩ = some (.slice d4 l4 c4) ∧ wt2.cell? ⟨w1.heap.size, 0, none⟩ = some (.int .i64 a7) ∧ wt2.cell? ⟨w1.heap.size, 1, none⟩ = some (.bool n7) ∧ wt2.cell? ⟨w1.heap.size, 2, none⟩ = some (.slice d7 l7 c7) := ⟨hxa.cell 0, hxa.cell 1, hxa.cell 2, hxa.cell 3, hxa.cell 4, hxa.cell 5, hxa.cell 6, hxa.cell 7, hxc.cell 0, hxc.cell 1, hxc.cell 2⟩
                   clear hxa hxc
                   clear hb)))
              | fail "no way"
              all_goals
                go_wp2_with fail
                go_meet
                first
                  | exact HCUT.out _ HQ4.out
                  | exact HCUT.out _ HQ2.out
            · go_wp2_with fail
              first
              | (go_region_with (first
                | (go_at_call 114
                   refine (TO.out _ HQ2.out).mono ?_
                   rintro e wt3 ⟨u3, rfl, hu, hb⟩
                   have HU3 := hidG hu
                   have HQ3 : Hid (Below w6.heap.size w6 wt3) := HQ2.out.trans (hb.mono HQ2.out.size)
                   have hxa := (HX0.out wt3 (HA6.out.trans (HQ3.out.mono HA6.out.size))).2.1
                   have hxc := HX6.out.below HX6.out.lt HQ3.out
                   have p0 := hxa.cell 0
                   have p1 := hxa.cell 1
                   have p2 := hxa.cell 2
                   have p3 := hxa.cell 3
                   have p4 := hxa.cell 4
                   have p5 := hxa.cell 5
                   have p6 := hxa.cell 6
                   have p7 := hxa.cell 7
                   simp only [List.getElem?_cons_zero, List.getElem?_cons_succ] at p0 p1 p2 p3 p4 p5 p6 p7
                   have zp0 := hxc.cell 0
                   have zp1 := hxc.cell 1
                   have zp2 := hxc.cell 2
                   simp only [List.getElem?_cons_zero, List.getElem?_cons_succ] at zp0 zp1 zp2
                   clear hxa hxc
                   clear hu hb)
                | (go_at_call 114
                   refine (TO.out _ ?_).mono ?_
                   · exact (Below.refl _ w6).drew
                   rintro e wt1 ⟨u1, rfl, hu, hb⟩
                   have HU1 := hidG hu
                   have HQ1 : Hid (Below w6.heap.size w6 wt1) := (Below.refl _ w6).drew.trans hb
                   have hxa := (HX0.out wt1 (HA6.out.trans (HQ1.out.mono HA6.out.size))).2.1
                   have hxc := HX6.out.below HX6.out.lt HQ1.out
                   have s0 := hxa.cell 0
                   have s1 := hxa.cell 1
                   have s2 := hxa.cell 2
                   have s3 := hxa.cell 3
                   have s4 := hxa.cell 4
                   have s5 := hxa.cell 5
                   have s6 := hxa.cell 6
                   have s7 := hxa.cell 7
                   simp only [List.getElem?_cons_zero, List.getElem?_cons_succ] at s0 s1 s2 s3 s4 s5 s6 s7
                   have zs0 := hxc.cell 0
                   have zs1 := hxc.cell 1
                   have zs2 := hxc.cell 2
                   simp only [List.getElem?_cons_zero, List.getElem?_cons_succ] at zs0 zs1 zs2
                   clear hxa hxc
                   clear hu hb)
                | (go_at_call 78
                   refine (TC.out _ _ HQ3.out HU3.out).mono ?_
                   rintro e wt4 ⟨rfl, hb⟩
                   have HQ4 : Hid (Below w6.heap.size w6 wt4) := HQ3.out.trans (hb.mono HQ3.out.size)
                   have hxa := (HX0.out wt4 (HA6.out.trans (HQ4.out.mono HA6.out.size))).2.1
                   have hxc := HX6.out.below HX6.out.lt HQ4.out
                   have t0 := hxa.cell 0
                   have t1 := hxa.cell 1
                   have t2 := hxa.cell 2
                   have t3 := hxa.cell 3
                   have t4 := hxa.cell 4
                   have t5 := hxa.cell 5
                   have t6 := hxa.cell 6
                   have t7 := hxa.cell 7
                   simp only [List.getElem?_cons_zero, List.getElem?_cons_succ] at t0 t1 t2 t3 t4 t5 t6 t7
                   have zt0 := hxc.cell 0
                   have zt1 := hxc.cell 1
                   have zt2 := hxc.cell 2
                   simp only [List.getElem?_cons_zero, List.getElem?_cons_succ] at zt0 zt1 zt2
                   clear hxa hxc
                   clear hb)
                | (go_at_call 78
                   refine (TC.out _ _ HQ1.out HU1.out).mono ?_
                   rintro e wt2 ⟨rfl, hb⟩
                   have HQ2 : Hid (Below w6.heap.size w6 wt2) := HQ1.out.trans (hb.mono HQ1.out.size)
                   have hxa := (HX0.out wt2 (HA6.out.trans (HQ2.out.mono HA6.out.size))).2.1
                   have hxc := HX6.out.below HX6.out.lt HQ2.out
                   have u0 := hxa.cell 0
                   have u1 := hxa.cell 1
                   have u2 := hxa.cell 2
                   have u3 := hxa.cell 3
                   have u4 := hxa.cell 4
                   have u5 := hxa.cell 5
                   have u6 := hxa.cell 6
                   have u7 := hxa.cell 7
                   simp only [List.getElem?_cons_zero, List.getElem?_cons_succ] at u0 u1 u2 u3 u4 u5 u6 u7
                   have zu0 := hxc.cell 0
                   have zu1 := hxc.cell 1
                   have zu2 := hxc.cell 2
                   simp only [List.getElem?_cons_zero, List.getElem?_cons_succ] at zu0 zu1 zu2
                   clear hxa hxc
                   clear hb)))
              | fail "no way"
              all_goals
                go_wp2_with fail
                go_meet
                first
                  | exact HCUT.out _ HQ4.out
                  | exact HCUT.out _ HQ2.out
        case rest =>
          obtain ⟨rfl, hbc⟩ := hcut
          obtain ⟨w7, rfl⟩ : ∃ w7, w7 = wc := ⟨_, rfl⟩
          have HC7 : Hid (Below w6.heap.size w6 w7) := hbc
          have HA7 : Hid (Below W0.heap.size W0 w7) := HA6.out.trans (hbc.mono HA6.out.size)
          have HV7 := hidG (HV6.out.below hbc)
          have HX7 := hidG (HX6.out.below HX6.out.lt hbc)
          have hz7 : w1.heap.size < w7.heap.size := HX7.out.lt
          have HIF : Hid ((!has || (decide (ordI ((nn) * d) (c * 1) < 0) || (decide (ordI ((nn) * d) (c * 1) = 0) && !ho))) = true ↔ has = false ∨ simH ho c d (simN lo a b)) := by
            show _ ↔ _
            rw [HSN.out]
            cases has with
            | false => simp
            | true => exact Iff.trans (by simp) (Iff.trans (ord_simH (ho := ho) (c := c) (d := d) (n := nn)) (by simp))
          clear hbc g0 g1 g2 j0 j1 j2 j3 j4 j5 j6 j7 TO
          by_cases hfd : has = false ∨ simH ho c d (simN lo a b)
          · rw [HIF.out.2 hfd]
            have HTR := hidG hfd
            clear hfd
            have hx7 := HX7.out
            have g0 := hx7.cell 0
            have g1 := hx7.cell 1
            have g2 := hx7.cell 2
            simp only [List.getElem?_cons_zero, List.getElem?_cons_succ] at g0 g1 g2
            clear hx7
            go_wp2_with fail
            refine (l2OfZ_any 0 _ _ _ _ _ (nn) w7 (Nat.zero_le _) HV7.out).mono ?_
            rintro e w8 ⟨z8, rfl, hz8, hb8⟩
            obtain ⟨a8, n8, d8, l8, c8, a9, n9, d9, l9, c9, rfl, q1, q2⟩ := hz8
            have HR1 := hidG q1
            have HR2 := hidG q2
            have HA8 : Hid (Below W0.heap.size W0 w8) := HA7.out.trans (hb8.mono HA7.out.size)
            have hbr := (HX0.out w8 HA8.out).2.2
            clear hb8 q1 q2 g0 g1 g2
            have r0 := hbr.cell 0
            have r1 := hbr.cell 1
            have r2 := hbr.cell 2
            have r3 := hbr.cell 3
            have r4 := hbr.cell 4
            have r5 := hbr.cell 5
            simp only [List.getElem?_cons_zero, List.getElem?_cons_succ] at r0 r1 r2 r3 r4 r5
            have rf0 := hbr.frozen 0
            have rf1 := hbr.frozen 1
            have rf2 := hbr.frozen 2
            have rf3 := hbr.frozen 3
            have rf4 := hbr.frozen 4
            have rf5 := hbr.frozen 5
            clear hbr
            go_wp2
            have hbw := (HX0.out w8 HA8.out).2.2
            have hnR : NoInt w8 (w.heap.size + 1 + 1) := noInt_of hbw (by simp)
            have HKK := keepsC6 w8 (w.heap.size + 1 + 1) (.int .i64 a8) (.bool n8) (.slice d8 l8 c8) (.int .i64 a9) (.bool n9) (.slice d9 l9 c9)
            have hD1 := HR1.out.keeps hnR hnR HKK
            have hD2 := HR2.out.keeps hnR hnR HKK
            have hB9 : Below w.heap.size w ((((((w8.setCell ⟨w.heap.size + 1 + 1, 0, none⟩ (.int .i64 a8)).setCell ⟨w.heap.size + 1 + 1, 1, none⟩ (.bool n8)).setCell ⟨w.heap.size + 1 + 1, 2, none⟩ (.slice d8 l8 c8)).setCell ⟨w.heap.size + 1 + 1, 3, none⟩ (.int .i64 a9)).setCell ⟨w.heap.size + 1 + 1, 4, none⟩ (.bool n9)).setCell ⟨w.heap.size + 1 + 1, 5, none⟩ (.slice d9 l9 c9)) := (((((((HB0.out.trans (HA8.out.mono HB0.out.size)).setCell (p := ⟨w.heap.size + 1 + 1, 0, none⟩) (by dsimp only; omega) (.int .i64 a8)).setCell (p := ⟨w.heap.size + 1 + 1, 1, none⟩) (by dsimp only; omega) (.bool n8)).setCell (p := ⟨w.heap.size + 1 + 1, 2, none⟩) (by dsimp only; omega) (.slice d8 l8 c8)).setCell (p := ⟨w.heap.size + 1 + 1, 3, none⟩) (by dsimp only; omega) (.int .i64 a9)).setCell (p := ⟨w.heap.size + 1 + 1, 4, none⟩) (by dsimp only; omega) (.bool n9)).setCell (p := ⟨w.heap.size + 1 + 1, 5, none⟩) (by dsimp only; omega) (.slice d9 l9 c9))
            have hZ9 : Bx ((((((w8.setCell ⟨w.heap.size + 1 + 1, 0, none⟩ (.int .i64 a8)).setCell ⟨w.heap.size + 1 + 1, 1, none⟩ (.bool n8)).setCell ⟨w.heap.size + 1 + 1, 2, none⟩ (.slice d8 l8 c8)).setCell ⟨w.heap.size + 1 + 1, 3, none⟩ (.int .i64 a9)).setCell ⟨w.heap.size + 1 + 1, 4, none⟩ (.bool n9)).setCell ⟨w.heap.size + 1 + 1, 5, none⟩ (.slice d9 l9 c9)) (w.heap.size + 1 + 1) [.int .i64 a8, .bool n8, .slice d8 l8 c8, .int .i64 a9, .bool n9, .slice d9 l9 c9] := ((((((hbw.set 0 (.int .i64 a8)).set 1 (.bool n8)).set 2 (.slice d8 l8 c8)).set 3 (.int .i64 a9)).set 4 (.bool n9)).set 5 (.slice d9 l9 c9))
            generalize (((((w8.setCell ⟨w.heap.size + 1 + 1, 0, none⟩ (.int .i64 a8)).setCell ⟨w.heap.size + 1 + 1, 1, none⟩ (.bool n8)).setCell ⟨w.heap.size + 1 + 1, 2, none⟩ (.slice d8 l8 c8)).setCell ⟨w.heap.size + 1 + 1, 3, none⟩ (.int .i64 a9)).setCell ⟨w.heap.size + 1 + 1, 4, none⟩ (.bool n9)).setCell ⟨w.heap.size + 1 + 1, 5, none⟩ (.slice d9 l9 c9) = W9 at *
            have v0 := hZ9.cell 0
            have v1 := hZ9.cell 1
            have v2 := hZ9.cell 2
            have v3 := hZ9.cell 3
            have v4 := hZ9.cell 4
            have v5 := hZ9.cell 5
            simp only [List.getElem?_cons_zero, List.getElem?_cons_succ] at v0 v1 v2 v3 v4 v5
            have hsim : Sim lo a b has ho c d (simN lo a b) 1 := Sim.found lo a b has ho c d HTR.out
            rw [HSN.out] at hsim
            refine bodyPost_ret (v := .agg #[.int .i64 a8, .bool n8, .slice d8 l8 c8, .int .i64 a9, .bool n9, .slice d9 l9 c9]) ?_ rfl ⟨_, _, _, rfl, qn_mk hD1 hD2, hsim, hB9⟩
            simp [results, Tryz.results125, go_sem, v0, v1, v2, v3, v4, v5]
          · have HFD := hidG hfd
            have hff : (!has || (decide (ordI ((nn) * d) (c * 1) < 0) || (decide (ordI ((nn) * d) (c * 1) = 0) && !ho))) = false := by
              rw [← Bool.not_eq_true, HIF.out]
              exact hfd
            rw [hff]
            clear hfd hff
            obtain rfl : has = true := by
              cases has with
              | false => exact absurd (.inl rfl) HFD.out
              | true => rfl
            have hst := ends_step HE.out (fun h => HFD.out (.inr h))
            rw [← HFV.out] at hst
            have HST := hidG hst
            have HNF : Hid (nn = f + 1) := HSN.out.symm.trans hst.1
            clear hst
            have hx7 := HX7.out
            have g0 := hx7.cell 0
            have g1 := hx7.cell 1
            have g2 := hx7.cell 2
            simp only [List.getElem?_cons_zero, List.getElem?_cons_succ] at g0 g1 g2
            clear hx7
            have T10 : Hid (∀ W zp, Below w7.heap.size w7 W → NumZ 0 W zp 1 1000 → Calls Tryz.prog 105 #[.agg #[.int .i64 a7, .bool n7, .slice d7 l7 c7], zp] W (fun e w' => ∃ z, e = .returned z ∧ NumZ 0 w' z f 1000 ∧ Below W.heap.size W w')) := fun W zp hW hz => by
              refine (l1SubN_any _ _ nn 1 1000 1000 W (HV7.out.below hW) hz (by decide) (by decide)).mono ?_
              rintro e w' ⟨z, rfl, hz, hb⟩
              have e1 : nn - 1 = f := by have := HNF.out; omega
              rw [e1] at hz
              exact ⟨z, rfl, numZ_lt hz (lb_le 281 1000 (by decide) HFL.out), hb⟩
            go_upto_region 10 with fail
            go_cut [6] (fun q6 wx => ∃ (gb : Nat) (a8 : Int) (n8 : Bool) (d8 : Option Addr) (l8 c8 : Nat), q6 = .pointer (some ⟨gb, 0, none⟩) ∧ w7.heap.size ≤ gb ∧ Bx wx gb [.int .i64 a8, .bool n8, .slice d8 l8 c8] ∧ NumZ 0 wx (.agg #[.int .i64 a8, .bool n8, .slice d8 l8 c8]) (f) 1000 ∧ Below w7.heap.size w7 wx)
            case first =>
              go_wp2_with fail
              go_region_held3 (fun W => W.cell? ⟨w1.heap.size, 0, none⟩ = some (.int .i64 a7) ∧ W.cell? ⟨w1.heap.size, 1, none⟩ = some (.bool n7) ∧ W.cell? ⟨w1.heap.size, 2, none⟩ = some (.slice d7 l7 c7)) (first | with_reducible assumption | with_reducible exact putS_3_3 (by with_reducible assumption) _ (by dsimp only; omega) _ _ _ | go_keep) (first
                | (go_at_call 67
                   refine (l1Small_any 1 _ (by decide) (by decide)).mono ?_
                   rintro e wt1 ⟨u1, rfl, hu, hb⟩
                   have HU1 := hidG (hu.mono' (B' := 0) (n' := 1000) (Nat.zero_le _) (by decide))
                   have HQ1 : Hid (Below w7.heap.size w7 wt1) := by
                     show Below w7.heap.size w7 wt1
                     refine Below.trans ?_ (hb.mono ?_)
                     · repeat' (first | exact Below.refl _ _ | refine Below.drew ?_ | refine Below.alloc ?_ ?_ _ | assumption | (simp; done) | (simp; omega))
                     · simp
                   have HK1 := hidG (fun (gg : Nat) (l : List Value) (hx : Bx _ gg l) => hx.below hx.lt hb)
                   have hz1 := HQ1.out.size
                   try (have hnb : Bx wt1 w7.heap.size [.int .i64 0, .bool false, .slice none 0 0] := by with_reducible exact HK1.out _ _ (bx_newD _ _ _))
                   try have HNB := hidG hnb
                   try clear hnb
                   have hxa := HX7.out.below HX7.out.lt HQ1.out
                   have hS0 : wt1.cell? ⟨w1.heap.size, 0, none⟩ = some (.int .i64 a7) ∧ wt1.cell? ⟨w1.heap.size, 1, none⟩ = some (.bool n7) ∧ wt1.cell? ⟨w1.heap.size, 2, none⟩ = some (.slice d7 l7 c7) := ⟨hxa.cell 0, hxa.cell 1, hxa.cell 2⟩
                   clear hu hb hxa)
                | (go_at_call 105
                   refine (T10.out _ _ ?_ ?_).mono ?_
                   · repeat' (first | exact HQ1.out | refine Below.drew ?_ | refine Below.alloc ?_ ?_ _ | assumption | (simp; done) | (simp; omega))
                   · first | exact HU1.out | exact HU1.out.below (below_alloc _ _)
                   rintro e wm ⟨u2, rfl, hu, hb⟩
                   have HU2 := hidG hu
                   have HQM : Hid (Below w7.heap.size w7 wm) := by
                     show Below w7.heap.size w7 wm
                     refine Below.trans ?_ (hb.mono ?_)
                     · repeat' (first | exact HQ1.out | refine Below.drew ?_ | refine Below.alloc ?_ ?_ _ | assumption | (simp; done) | (simp; omega))
                     · first | exact hz1 | (simp; omega)
                   have HK2 := hidG (fun (gg : Nat) (l : List Value) (hx : Bx _ gg l) => hx.below hx.lt hb)
                   have hz2 := HQM.out.size
                   try (have hnb : Bx wm w7.heap.size [.int .i64 0, .bool false, .slice none 0 0] := by with_reducible exact HK2.out _ _ HNB.out)
                   try (have hnb : Bx wm wt1.heap.size [.int .i64 0, .bool false, .slice none 0 0] := by with_reducible exact HK2.out _ _ (bx_new _ _ _))
                   try (have n0 := hnb.cell 0; have n1 := hnb.cell 1; have n2 := hnb.cell 2; have nf0 := hnb.frozen 0; have nf1 := hnb.frozen 1; have nf2 := hnb.frozen 2; simp only [List.getElem?_cons_zero, List.getElem?_cons_succ] at n0 n1 n2)
                   try have HNC := hidG hnb
                   try clear hnb
                   obtain ⟨a8, n8, d8, l8, c8, rfl⟩ := hu.shape'
                   have hxa := HX7.out.below HX7.out.lt HQM.out
                   have hS1 : wm.cell? ⟨w1.heap.size, 0, none⟩ = some (.int .i64 a7) ∧ wm.cell? ⟨w1.heap.size, 1, none⟩ = some (.bool n7) ∧ wm.cell? ⟨w1.heap.size, 2, none⟩ = some (.slice d7 l7 c7) := ⟨hxa.cell 0, hxa.cell 1, hxa.cell 2⟩
                   clear hu hb hxa))
              all_goals
                go_wp2_with fail
                go_meet
                first
                  | (have hnb := HNC.out
                     exact ⟨_, a8, n8, d8, l8, c8, rfl, (by first | exact Nat.le_refl _ | exact hz1), ((hnb.set 0 _).set 1 _).set 2 _, HU2.out.keeps (noInt_of hnb (by simp)) (noInt_of hnb (by simp)) (keepsC3 wm _ _ _ _), ((HQM.out.setCell (by dsimp only; omega) _).setCell (by dsimp only; omega) _).setCell (by dsimp only; omega) _⟩)
                  | exact ⟨wm.heap.size, a8, n8, d8, l8, c8, rfl, hz2, bx_new wm _ _, HU2.out.below (below_alloc _ _), HQM.out.alloc HQM.out.size _⟩
            case rest =>
              obtain ⟨gb, a8, n8, d8, l8, c8, rfl, hgb, hbx, hnz, hbc⟩ := hcut
              obtain ⟨wb, rfl⟩ : ∃ wb, wb = wc := ⟨_, rfl⟩
              have HA8 : Hid (Below W0.heap.size W0 wb) := HA7.out.trans (hbc.mono HA7.out.size)
              have HX8 := hidG hbx
              have HF8 := hidG hnz
              have hzb : gb < wb.heap.size := hbx.lt
              clear hbc hbx hnz g0 g1 g2
              obtain ⟨WU, hWU⟩ : ∃ WU, wb.alloc (.cells #[.bool false, .bool false, .int .i64 0, .bool false, .slice none 0 0, .int .i64 0, .bool false, .slice none 0 0] 88) = WU := ⟨_, rfl⟩
              have HWU := hidG hWU
              have HBu : Hid (Below wb.heap.size wb WU) := by show Below wb.heap.size wb WU; rw [← hWU]; exact below_alloc _ _
              have HSu : Hid (WU.heap.size = wb.heap.size + 1) := by show WU.heap.size = _; rw [← hWU]; simp
              have hxu_0 : Bx WU (wb.heap.size) [.bool false, .bool false, .int .i64 0, .bool false, .slice none 0 0, .int .i64 0, .bool false, .slice none 0 0] := by
                rw [← hWU]
                exact bx_new wb _ _
              have HXu : Hid (∀ W, Below WU.heap.size WU W → Bx W (wb.heap.size) [.bool false, .bool false, .int .i64 0, .bool false, .slice none 0 0, .int .i64 0, .bool false, .slice none 0 0]) := fun W hW => hxu_0.below hxu_0.lt hW
              clear hWU hxu_0
              have HAU : Hid (Below W0.heap.size W0 WU) := HA8.out.trans (HBu.out.mono HA8.out.size)
              have HXU8 := hidG (HX8.out.below HX8.out.lt HBu.out)
              have HFU := hidG (HF8.out.below HBu.out)
              have hxb := (HX0.out WU HAU.out).1
              have hx8 := HXU8.out
              have k0 := hxb.cell 0
              have k1 := hxb.cell 1
              have k2 := hxb.cell 2
              have k3 := hxb.cell 3
              have k4 := hxb.cell 4
              have k5 := hxb.cell 5
              have k6 := hxb.cell 6
              have k7 := hxb.cell 7
              simp only [List.getElem?_cons_zero, List.getElem?_cons_succ] at k0 k1 k2 k3 k4 k5 k6 k7
              have g0 := hx8.cell 0
              have g1 := hx8.cell 1
              have g2 := hx8.cell 2
              simp only [List.getElem?_cons_zero, List.getElem?_cons_succ] at g0 g1 g2
              clear hxb hx8
              have T12a : Hid (∀ W, Below WU.heap.size WU W → Calls Tryz.prog 114 #[.agg #[.int .i64 a8, .bool n8, .slice d8 l8 c8]] W (fun e w' => ∃ z, e = .returned z ∧ IsQN 0 w' z f 1 ∧ Below W.heap.size W w')) := fun W hW => l2OfZ_any 0 _ _ _ _ _ f W (Nat.zero_le _) (HFU.out.below hW)
              have HR2 : Hid (ordI (a * 1) (f * b) = if a - f * b ≠ 0 then 1 else 0) := by
                show ordI (a * 1) (f * b) = if a - f * b ≠ 0 then 1 else 0
                have e1 := div_parts a b HBP.out
                rw [← HFV.out] at e1
                unfold ordI
                rw [Int.mul_one, if_neg (by omega)]
                by_cases h0 : a - f * b ≠ 0
                · rw [if_pos h0, if_pos (by omega)]
                · rw [if_neg h0, if_neg (by omega)]
              go_upto_region 12 with fail
              rw [HWU.out]
              go_cut [70] (fun q70 wx => q70 = .bool (decide (a - f * b ≠ 0)) ∧ Below WU.heap.size WU wx)
              case first =>
                obtain ⟨r2, hr2⟩ : ∃ r2, ordI (a * 1) (f * b) = r2 := ⟨_, rfl⟩
                have HPOS2 : Hid (decide (0 < r2) = decide (a - f * b ≠ 0)) := by
                  show _ = _
                  rw [← hr2, HR2.out]
                  by_cases h0 : a - f * b ≠ 0
                  · rw [if_pos h0, decide_eq_true h0]; rfl
                  · rw [if_neg h0, decide_eq_false h0]; rfl
                have T12b : Hid (∀ W z, Below WU.heap.size WU W → IsQN 0 W z f 1 → Calls Tryz.prog 78 #[.agg #[.int .i64 a1, .bool n1, .slice d1 l1 c1, .int .i64 a2, .bool n2, .slice d2 l2 c2], z] W (fun e w' => e = .returned (.int .i64 r2) ∧ Below W.heap.size W w')) := fun W z hW hz => by
                  rw [← hr2]
                  exact l2Cmp_any 0 _ z a b f 1 W (Nat.zero_le _) (qn_mk (((H1.out.below HB0.out).below HAU.out).below hW) (((H2.out.below HB0.out).below HAU.out).below hW)) hz
                clear hr2
                go_wp2_with fail
                go_region_held3 (fun W => W.cell? ⟨w.heap.size, 0, none⟩ = some (.bool true) ∧ W.cell? ⟨w.heap.size, 1, none⟩ = some (.bool lo) ∧ W.cell? ⟨w.heap.size, 2, none⟩ = some (.int .i64 a1) ∧ W.cell? ⟨w.heap.size, 3, none⟩ = some (.bool n1) ∧ W.cell? ⟨w.heap.size, 4, none⟩ = some (.slice d1 l1 c1) ∧ W.cell? ⟨w.heap.size, 5, none⟩ = some (.int .i64 a2) ∧ W.cell? ⟨w.heap.size, 6, none⟩ = some (.bool n2) ∧ W.cell? ⟨w.heap.size, 7, none⟩ = some (.slice d2 l2 c2) ∧ W.cell? ⟨gb, 0, none⟩ = some (.int .i64 a8) ∧ W.cell? ⟨gb, 1, none⟩ = some (.bool n8) ∧ W.cell? ⟨gb, 2, none⟩ = some (.slice d8 l8 c8)) (first | with_reducible assumption | go_keep) (first
                  | (go_at_call 114
                     refine (T12a.out _ ?_).mono ?_
                     · exact (Below.refl _ WU).drew
                     rintro e wt1 ⟨u1, rfl, hu, hb⟩
                     have HU1 := hidG hu
                     have HQ1 : Hid (Below WU.heap.size WU wt1) := (Below.refl _ WU).drew.trans hb
                     have hxa := (HX0.out wt1 (HAU.out.trans (HQ1.out.mono HAU.out.size))).1
                     have hxc := HXU8.out.below HXU8.out.lt HQ1.out
                     have hS0 : wt1.cell? ⟨w.heap.size, 0, none⟩ = some (.bool true) ∧ wt1.cell? ⟨w.heap.size, 1, none⟩ = some (.bool lo) ∧ wt1.cell? ⟨w.heap.size, 2, none⟩ = some (.int .i64 a1) ∧ wt1.cell? ⟨w.heap.size, 3, none⟩ = some (.bool n1) ∧ wt1.cell? ⟨w.heap.size, 4, none⟩ = some (.slice d1 l1 c1) ∧ wt1.cell? ⟨w.heap.size, 5, none⟩ = some (.int .i64 a2) ∧ wt1.cell? ⟨w.heap.size, 6, none⟩ = some (.bool n2) ∧ wt1.cell? ⟨w.heap.size, 7, none⟩ = some (.slice d2 l2 c2) ∧ wt1.cell? ⟨gb, 0, none⟩ = some (.int .i64 a8) ∧ wt1.cell? ⟨gb, 1, none⟩ = some (.bool n8) ∧ wt1.cell? ⟨gb, 2, none⟩ = some (.slice d8 l8 c8) := ⟨hxa.cell 0, hxa.cell 1, hxa.cell 2, hxa.cell 3, hxa.cell 4, hxa.cell 5, hxa.cell 6, hxa.cell 7, hxc.cell 0, hxc.cell 1, hxc.cell 2⟩
                     clear hu hb hxa hxc)
                  | (go_at_call 78
                     refine (T12b.out _ _ HQ1.out HU1.out).mono ?_
                     rintro e wm ⟨rfl, hb⟩
                     have HQM : Hid (Below WU.heap.size WU wm) := HQ1.out.trans (hb.mono HQ1.out.size)
                     have hxa := (HX0.out wm (HAU.out.trans (HQM.out.mono HAU.out.size))).1
                     have hxc := HXU8.out.below HXU8.out.lt HQM.out
                     have hS1 : wm.cell? ⟨w.heap.size, 0, none⟩ = some (.bool true) ∧ wm.cell? ⟨w.heap.size, 1, none⟩ = some (.bool lo) ∧ wm.cell? ⟨w.heap.size, 2, none⟩ = some (.int .i64 a1) ∧ wm.cell? ⟨w.heap.size, 3, none⟩ = some (.bool n1) ∧ wm.cell? ⟨w.heap.size, 4, none⟩ = some (.slice d1 l1 c1) ∧ wm.cell? ⟨w.heap.size, 5, none⟩ = some (.int .i64 a2) ∧ wm.cell? ⟨w.heap.size, 6, none⟩ = some (.bool n2) ∧ wm.cell? ⟨w.heap.size, 7, none⟩ = some (.slice d2 l2 c2) ∧ wm.cell? ⟨gb, 0, none⟩ = some (.int .i64 a8) ∧ wm.cell? ⟨gb, 1, none⟩ = some (.bool n8) ∧ wm.cell? ⟨gb, 2, none⟩ = some (.slice d8 l8 c8) := ⟨hxa.cell 0, hxa.cell 1, hxa.cell 2, hxa.cell 3, hxa.cell 4, hxa.cell 5, hxa.cell 6, hxa.cell 7, hxc.cell 0, hxc.cell 1, hxc.cell 2⟩
                     clear hb hxa hxc))
                all_goals
                  go_wp2_with fail
                  go_meet
                  exact ⟨by rw [← HPOS2.out], HQM.out⟩
              case rest =>
                obtain ⟨rfl, hbc⟩ := hcut
                obtain ⟨wv, rfl⟩ : ∃ wv, wv = wc := ⟨_, rfl⟩
                have HCV : Hid (Below WU.heap.size WU wv) := hbc
                have HAV : Hid (Below W0.heap.size W0 wv) := HAU.out.trans (hbc.mono HAU.out.size)
                have HXV8 := hidG (HXU8.out.below HXU8.out.lt hbc)
                have HFVv := hidG (HFU.out.below hbc)
                have HXVu := hidG (HXu.out wv hbc)
                clear hbc k0 k1 k2 k3 k4 k5 k6 k7 g0 g1 g2
                by_cases hne : a - f * b ≠ 0
                · rw [decide_eq_true hne]
                  have HNE := hidG hne
                  clear hne
                  have hxb := (HX0.out wv HAV.out).1
                  have hx8 := HXV8.out
                  have k0 := hxb.cell 0
                  have k1 := hxb.cell 1
                  have k2 := hxb.cell 2
                  have k3 := hxb.cell 3
                  have k4 := hxb.cell 4
                  have k5 := hxb.cell 5
                  have k6 := hxb.cell 6
                  have k7 := hxb.cell 7
                  simp only [List.getElem?_cons_zero, List.getElem?_cons_succ] at k0 k1 k2 k3 k4 k5 k6 k7
                  have g0 := hx8.cell 0
                  have g1 := hx8.cell 1
                  have g2 := hx8.cell 2
                  simp only [List.getElem?_cons_zero, List.getElem?_cons_succ] at g0 g1 g2
                  clear hxb hx8
                  have T13 : Hid (∀ W, Below wv.heap.size wv W → Calls Tryz.prog 158 #[.agg #[.int .i64 a1, .bool n1, .slice d1 l1 c1, .int .i64 a2, .bool n2, .slice d2 l2 c2], .agg #[.int .i64 a8, .bool n8, .slice d8 l8 c8]] W (fun e w' => ∃ z', e = .returned z' ∧ IsQN 0 w' z' b (a - f * b) ∧ Below W.heap.size W w')) := fun W hW => by
                    have e1 := div_parts a b HBP.out
                    rw [← HFV.out] at e1
                    have e2 := HLB.out.2.1
                    exact l2Turn_any _ _ a b f W (qn_mk (((H1.out.below HB0.out).below HAV.out).below hW) (((H2.out.below HB0.out).below HAV.out).below hW)) (HFVv.out.below hW) (lb_le 281 1000 (by decide) (by omega))
                  go_wp2_with fail
                  go_region_held3 (fun W => W.cell? ⟨w.heap.size, 0, none⟩ = some (.bool true) ∧ W.cell? ⟨w.heap.size, 1, none⟩ = some (.bool lo) ∧ W.cell? ⟨w.heap.size, 2, none⟩ = some (.int .i64 a1) ∧ W.cell? ⟨w.heap.size, 3, none⟩ = some (.bool n1) ∧ W.cell? ⟨w.heap.size, 4, none⟩ = some (.slice d1 l1 c1) ∧ W.cell? ⟨w.heap.size, 5, none⟩ = some (.int .i64 a2) ∧ W.cell? ⟨w.heap.size, 6, none⟩ = some (.bool n2) ∧ W.cell? ⟨w.heap.size, 7, none⟩ = some (.slice d2 l2 c2) ∧ W.cell? ⟨gb, 0, none⟩ = some (.int .i64 a8) ∧ W.cell? ⟨gb, 1, none⟩ = some (.bool n8) ∧ W.cell? ⟨gb, 2, none⟩ = some (.slice d8 l8 c8)) (first | with_reducible assumption | with_reducible exact putS_11_8 (by with_reducible assumption) (wb.heap.size) (by dsimp only; omega) _ _ _ _ _ _ _ _ | go_keep) (first
                    | (go_at_call 158
                       refine (T13.out _ ?_).mono ?_
                       · exact (Below.refl _ wv).drew
                       rintro e wm ⟨u1, rfl, hu, hb⟩
                       obtain ⟨a9, n9, d9, l9, c9, a10, n10, d10, l10, c10, rfl, j1, j2⟩ := hu
                       have HU1 := hidG j1
                       have HU2 := hidG j2
                       have HQM : Hid (Below wv.heap.size wv wm) := (Below.refl _ wv).drew.trans hb
                       have hxa := (HX0.out wm (HAV.out.trans (HQM.out.mono HAV.out.size))).1
                       have hxc := HXV8.out.below HXV8.out.lt HQM.out
                       have hS0 : wm.cell? ⟨w.heap.size, 0, none⟩ = some (.bool true) ∧ wm.cell? ⟨w.heap.size, 1, none⟩ = some (.bool lo) ∧ wm.cell? ⟨w.heap.size, 2, none⟩ = some (.int .i64 a1) ∧ wm.cell? ⟨w.heap.size, 3, none⟩ = some (.bool n1) ∧ wm.cell? ⟨w.heap.size, 4, none⟩ = some (.slice d1 l1 c1) ∧ wm.cell? ⟨w.heap.size, 5, none⟩ = some (.int .i64 a2) ∧ wm.cell? ⟨w.heap.size, 6, none⟩ = some (.bool n2) ∧ wm.cell? ⟨w.heap.size, 7, none⟩ = some (.slice d2 l2 c2) ∧ wm.cell? ⟨gb, 0, none⟩ = some (.int .i64 a8) ∧ wm.cell? ⟨gb, 1, none⟩ = some (.bool n8) ∧ wm.cell? ⟨gb, 2, none⟩ = some (.slice d8 l8 c8) := ⟨hxa.cell 0, hxa.cell 1, hxa.cell 2, hxa.cell 3, hxa.cell 4, hxa.cell 5, hxa.cell 6, hxa.cell 7, hxc.cell 0, hxc.cell 1, hxc.cell 2⟩
                       have hxr := HXVu.out.below HXVu.out.lt HQM.out
                       have r0 := hxr.cell 0
                       have r1 := hxr.cell 1
                       have r2 := hxr.cell 2
                       have r3 := hxr.cell 3
                       have r4 := hxr.cell 4
                       have r5 := hxr.cell 5
                       have r6 := hxr.cell 6
                       have r7 := hxr.cell 7
                       simp only [List.getElem?_cons_zero, List.getElem?_cons_succ] at r0 r1 r2 r3 r4 r5 r6 r7
                       have rf0 := hxr.frozen 0
                       have rf1 := hxr.frozen 1
                       have rf2 := hxr.frozen 2
                       have rf3 := hxr.frozen 3
                       have rf4 := hxr.frozen 4
                       have rf5 := hxr.frozen 5
                       have rf6 := hxr.frozen 6
                       have rf7 := hxr.frozen 7
                       clear j1 j2 hb hxa hxc hxr))
                  all_goals
                    try simp only [List.getElem_toArray, List.getElem_cons_succ, List.getElem_cons_zero, Act.put, List.setIfInBounds_toArray, List.set_cons_succ, List.set_cons_zero]
                    have hxr := HXVu.out.below HXVu.out.lt HQM.out
                    have hnR : NoInt wm wb.heap.size := noInt_of hxr (by simp)
                    have HKK := keepsC8 wm wb.heap.size (.bool true) (.bool lo) (.int .i64 a9) (.bool n9) (.slice d9 l9 c9) (.int .i64 a10) (.bool n10) (.slice d10 l10 c10)
                    have hD1 := HU1.out.keeps hnR hnR HKK
                    have hD2 := HU2.out.keeps hnR hnR HKK
                    have hF9 := (HFVv.out.below HQM.out).keeps hnR hnR HKK
                    have hA9 : Below wb.heap.size wb ((((((((wm.setCell ⟨wb.heap.size, 0, none⟩ (.bool true)).setCell ⟨wb.heap.size, 1, none⟩ (.bool lo)).setCell ⟨wb.heap.size, 2, none⟩ (.int .i64 a9)).setCell ⟨wb.heap.size, 3, none⟩ (.bool n9)).setCell ⟨wb.heap.size, 4, none⟩ (.slice d9 l9 c9)).setCell ⟨wb.heap.size, 5, none⟩ (.int .i64 a10)).setCell ⟨wb.heap.size, 6, none⟩ (.bool n10)).setCell ⟨wb.heap.size, 7, none⟩ (.slice d10 l10 c10)) := (((((((((HBu.out.trans ((HCV.out.trans (HQM.out.mono HCV.out.size)).mono HBu.out.size)).setCell (p := ⟨wb.heap.size, 0, none⟩) (by dsimp only; omega) (.bool true)).setCell (p := ⟨wb.heap.size, 1, none⟩) (by dsimp only; omega) (.bool lo)).setCell (p := ⟨wb.heap.size, 2, none⟩) (by dsimp only; omega) (.int .i64 a9)).setCell (p := ⟨wb.heap.size, 3, none⟩) (by dsimp only; omega) (.bool n9)).setCell (p := ⟨wb.heap.size, 4, none⟩) (by dsimp only; omega) (.slice d9 l9 c9)).setCell (p := ⟨wb.heap.size, 5, none⟩) (by dsimp only; omega) (.int .i64 a10)).setCell (p := ⟨wb.heap.size, 6, none⟩) (by dsimp only; omega) (.bool n10)).setCell (p := ⟨wb.heap.size, 7, none⟩) (by dsimp only; omega) (.slice d10 l10 c10))
                    have hX9 : Bx ((((((((wm.setCell ⟨wb.heap.size, 0, none⟩ (.bool true)).setCell ⟨wb.heap.size, 1, none⟩ (.bool lo)).setCell ⟨wb.heap.size, 2, none⟩ (.int .i64 a9)).setCell ⟨wb.heap.size, 3, none⟩ (.bool n9)).setCell ⟨wb.heap.size, 4, none⟩ (.slice d9 l9 c9)).setCell ⟨wb.heap.size, 5, none⟩ (.int .i64 a10)).setCell ⟨wb.heap.size, 6, none⟩ (.bool n10)).setCell ⟨wb.heap.size, 7, none⟩ (.slice d10 l10 c10)) wb.heap.size [.bool true, .bool lo, .int .i64 a9, .bool n9, .slice d9 l9 c9, .int .i64 a10, .bool n10, .slice d10 l10 c10] := ((((((((hxr.set 0 (.bool true)).set 1 (.bool lo)).set 2 (.int .i64 a9)).set 3 (.bool n9)).set 4 (.slice d9 l9 c9)).set 5 (.int .i64 a10)).set 6 (.bool n10)).set 7 (.slice d10 l10 c10))
                    clear r0 rf0 r1 rf1 r2 rf2 r3 rf3 r4 rf4 r5 rf5 r6 rf6 r7 rf7 hS0 hnR hxr HKK k0 k1 k2 k3 k4 k5 k6 k7 g0 g1 g2
                    generalize (((((((wm.setCell ⟨wb.heap.size, 0, none⟩ (.bool true)).setCell ⟨wb.heap.size, 1, none⟩ (.bool lo)).setCell ⟨wb.heap.size, 2, none⟩ (.int .i64 a9)).setCell ⟨wb.heap.size, 3, none⟩ (.bool n9)).setCell ⟨wb.heap.size, 4, none⟩ (.slice d9 l9 c9)).setCell ⟨wb.heap.size, 5, none⟩ (.int .i64 a10)).setCell ⟨wb.heap.size, 6, none⟩ (.bool n10)).setCell ⟨wb.heap.size, 7, none⟩ (.slice d10 l10 c10) = Wt at *
                    have HAT := hidG (HA8.out.trans (hA9.mono HA8.out.size))
                    have HX8T := hidG (HX8.out.below HX8.out.lt hA9)
                    have HXUT := hidG hX9
                    have HF8T := hidG hF9
                    have HUE : Hid (IsES Wt (.agg #[.bool true, .bool lo, .int .i64 a9, .bool n9, .slice d9 l9 c9, .int .i64 a10, .bool n10, .slice d10 l10 c10]) true lo b (a - f * b)) := ⟨_, _, _, _, _, _, _, _, _, _, rfl, hD1, hD2⟩
                    have HUEN : Hid (Ends ho d (c - f * d) true lo b (a - f * b)) := by
                      have h9 := HST.out.2.2.2
                      rw [decide_eq_true HNE.out] at h9
                      exact h9
                    have HUMS : Hid ((c - f * d + (if true = true then a - f * b else 0)).toNat ≤ N) := by
                      show (c - f * d + (if true = true then a - f * b else 0)).toNat ≤ N
                      have e1 := div_parts a b HBP.out
                      rw [← HFV.out] at e1
                      have e2 := HST.out.2.1
                      have e3 := HST.out.2.2.1
                      have e5 := HN.out
                      simp only [if_true] at e5 ⊢
                      omega
                    have HUBD : Hid (b.natAbs < lb 281 ∧ (a - f * b).natAbs < lb 281) := by
                      have e1 := div_parts a b HBP.out
                      rw [← HFV.out] at e1
                      have e2 := HLB.out.2.1
                      exact ⟨e2, by omega⟩
                    have HUSI : Hid (∀ p q, Sim ho d (c - f * d) true lo b (a - f * b) p q → Sim ho d (c - f * d) (decide (a - f * b ≠ 0)) lo b (a - f * b) p q) := fun p q h => by rw [decide_eq_true HNE.out]; exact h
                    clear hA9 hX9 hF9 hD1 hD2
                    have hzt : gb < Wt.heap.size := HX8T.out.lt
                    have hzu : wb.heap.size < Wt.heap.size := HXUT.out.lt
                    have hxb := (HX0.out Wt HAT.out).2.1
                    have hx8 := HX8T.out
                    have k0 := hxb.cell 0
                    have k1 := hxb.cell 1
                    have k2 := hxb.cell 2
                    have k3 := hxb.cell 3
                    have k4 := hxb.cell 4
                    have k5 := hxb.cell 5
                    have k6 := hxb.cell 6
                    have k7 := hxb.cell 7
                    simp only [List.getElem?_cons_zero, List.getElem?_cons_succ] at k0 k1 k2 k3 k4 k5 k6 k7
                    have g0 := hx8.cell 0
                    have g1 := hx8.cell 1
                    have g2 := hx8.cell 2
                    simp only [List.getElem?_cons_zero, List.getElem?_cons_succ] at g0 g1 g2
                    clear hxb hx8
                    have T14 : Hid (∀ W, Below Wt.heap.size Wt W → Calls Tryz.prog 158 #[.agg #[.int .i64 a3, .bool n3, .slice d3 l3 c3, .int .i64 a4, .bool n4, .slice d4 l4 c4], .agg #[.int .i64 a8, .bool n8, .slice d8 l8 c8]] W (fun e w' => ∃ z', e = .returned z' ∧ IsQN 0 w' z' d (c - f * d) ∧ Below W.heap.size W w')) := fun W hW => by
                      have e1 := HST.out.2.1
                      have e2 := HST.out.2.2.1
                      have e3 := HLB.out.2.2.2
                      exact l2Turn_any _ _ c d f W (qn_mk (((H3.out.below HB0.out).below HAT.out).below hW) (((H4.out.below HB0.out).below HAT.out).below hW)) (HF8T.out.below hW) (lb_le 281 1000 (by decide) (by omega))
                    go_upto_region 14 with fail
                    go_cut [8] (fun q8 wx => ∃ (gd : Nat) (a11 : Int) (n11 : Bool) (d11 : Option Addr) (l11 c11 : Nat) (a12 : Int) (n12 : Bool) (d12 : Option Addr) (l12 c12 : Nat), q8 = .pointer (some ⟨gd, 0, none⟩) ∧ Wt.heap.size ≤ gd ∧ Bx wx gd [.bool true, .bool ho, .int .i64 a11, .bool n11, .slice d11 l11 c11, .int .i64 a12, .bool n12, .slice d12 l12 c12] ∧ NumZ 0 wx (.agg #[.int .i64 a11, .bool n11, .slice d11 l11 c11]) (d) 1000 ∧ NumZ 0 wx (.agg #[.int .i64 a12, .bool n12, .slice d12 l12 c12]) (c - f * d) 1000 ∧ Below Wt.heap.size Wt wx)
                    case first =>
                      go_wp2_with fail
                      go_region_held3 (fun W => W.cell? ⟨w.heap.size + 1, 0, none⟩ = some (.bool true) ∧ W.cell? ⟨w.heap.size + 1, 1, none⟩ = some (.bool ho) ∧ W.cell? ⟨w.heap.size + 1, 2, none⟩ = some (.int .i64 a3) ∧ W.cell? ⟨w.heap.size + 1, 3, none⟩ = some (.bool n3) ∧ W.cell? ⟨w.heap.size + 1, 4, none⟩ = some (.slice d3 l3 c3) ∧ W.cell? ⟨w.heap.size + 1, 5, none⟩ = some (.int .i64 a4) ∧ W.cell? ⟨w.heap.size + 1, 6, none⟩ = some (.bool n4) ∧ W.cell? ⟨w.heap.size + 1, 7, none⟩ = some (.slice d4 l4 c4) ∧ W.cell? ⟨gb, 0, none⟩ = some (.int .i64 a8) ∧ W.cell? ⟨gb, 1, none⟩ = some (.bool n8) ∧ W.cell? ⟨gb, 2, none⟩ = some (.slice d8 l8 c8)) (first | with_reducible assumption | with_reducible exact putS_11_8 (by with_reducible assumption) _ (by dsimp only; omega) _ _ _ _ _ _ _ _ | go_keep) (first
                        | (go_at_call 158
                           refine (T14.out _ ?_).mono ?_
                           · repeat' (first | exact Below.refl _ _ | refine Below.drew ?_ | refine Below.alloc ?_ ?_ _ | assumption | (simp; done) | (simp; omega))
                           rintro e wm ⟨u1, rfl, hu, hb⟩
                           obtain ⟨a11, n11, d11, l11, c11, a12, n12, d12, l12, c12, rfl, j1, j2⟩ := hu
                           have HU1 := hidG j1
                           have HU2 := hidG j2
                           have HQM : Hid (Below Wt.heap.size Wt wm) := by
                             show Below Wt.heap.size Wt wm
                             refine Below.trans ?_ (hb.mono ?_)
                             · repeat' (first | exact Below.refl _ _ | refine Below.drew ?_ | refine Below.alloc ?_ ?_ _ | assumption | (simp; done) | (simp; omega))
                             · simp
                           have HK1 := hidG (fun (gg : Nat) (l : List Value) (hx : Bx _ gg l) => hx.below hx.lt hb)
                           have hz1 := HQM.out.size
                           try (have hnb : Bx wm Wt.heap.size [.bool false, .bool false, .int .i64 0, .bool false, .slice none 0 0, .int .i64 0, .bool false, .slice none 0 0] := by with_reducible exact HK1.out _ _ (bx_newD _ _ _))
                           try (have n0' := hnb.cell 0; have nf0' := hnb.frozen 0; have n1' := hnb.cell 1; have nf1' := hnb.frozen 1; have n2' := hnb.cell 2; have nf2' := hnb.frozen 2; have n3' := hnb.cell 3; have nf3' := hnb.frozen 3; have n4' := hnb.cell 4; have nf4' := hnb.frozen 4; have n5' := hnb.cell 5; have nf5' := hnb.frozen 5; have n6' := hnb.cell 6; have nf6' := hnb.frozen 6; have n7' := hnb.cell 7; have nf7' := hnb.frozen 7; simp only [List.getElem?_cons_zero, List.getElem?_cons_succ] at n0' n1' n2' n3' n4' n5' n6' n7')
                           try have HNC := hidG hnb
                           try clear hnb
                           have hxa := (HX0.out wm (HAT.out.trans (HQM.out.mono HAT.out.size))).2.1
                           have hxc := HX8T.out.below HX8T.out.lt HQM.out
                           have hSwm : wm.cell? ⟨w.heap.size + 1, 0, none⟩ = some (.bool true) ∧ wm.cell? ⟨w.heap.size + 1, 1, none⟩ = some (.bool ho) ∧ wm.cell? ⟨w.heap.size + 1, 2, none⟩ = some (.int .i64 a3) ∧ wm.cell? ⟨w.heap.size + 1, 3, none⟩ = some (.bool n3) ∧ wm.cell? ⟨w.heap.size + 1, 4, none⟩ = some (.slice d3 l3 c3) ∧ wm.cell? ⟨w.heap.size + 1, 5, none⟩ = some (.int .i64 a4) ∧ wm.cell? ⟨w.heap.size + 1, 6, none⟩ = some (.bool n4) ∧ wm.cell? ⟨w.heap.size + 1, 7, none⟩ = some (.slice d4 l4 c4) ∧ wm.cell? ⟨gb, 0, none⟩ = some (.int .i64 a8) ∧ wm.cell? ⟨gb, 1, none⟩ = some (.bool n8) ∧ wm.cell? ⟨gb, 2, none⟩ = some (.slice d8 l8 c8) := ⟨hxa.cell 0, hxa.cell 1, hxa.cell 2, hxa.cell 3, hxa.cell 4, hxa.cell 5, hxa.cell 6, hxa.cell 7, hxc.cell 0, hxc.cell 1, hxc.cell 2⟩
                           clear hxa hxc
                           clear j1 j2 hb))
                      all_goals
                        go_wp2_with fail
                        go_meet
                        first
                          | (have hnb := HNC.out
                             exact ⟨_, a11, n11, d11, l11, c11, a12, n12, d12, l12, c12, rfl, Nat.le_refl _, ((((((((hnb.set 0 (.bool true)).set 1 (.bool ho)).set 2 (.int .i64 a11)).set 3 (.bool n11)).set 4 (.slice d11 l11 c11)).set 5 (.int .i64 a12)).set 6 (.bool n12)).set 7 (.slice d12 l12 c12)), HU1.out.keeps (noInt_of hnb (by simp)) (noInt_of hnb (by simp)) (keepsC8 wm _ _ _ _ _ _ _ _ _), HU2.out.keeps (noInt_of hnb (by simp)) (noInt_of hnb (by simp)) (keepsC8 wm _ _ _ _ _ _ _ _ _), ((((((((HQM.out.setCell (p := ⟨Wt.heap.size, 0, none⟩) (by dsimp only; omega) (.bool true)).setCell (p := ⟨Wt.heap.size, 1, none⟩) (by dsimp only; omega) (.bool ho)).setCell (p := ⟨Wt.heap.size, 2, none⟩) (by dsimp only; omega) (.int .i64 a11)).setCell (p := ⟨Wt.heap.size, 3, none⟩) (by dsimp only; omega) (.bool n11)).setCell (p := ⟨Wt.heap.size, 4, none⟩) (by dsimp only; omega) (.slice d11 l11 c11)).setCell (p := ⟨Wt.heap.size, 5, none⟩) (by dsimp only; omega) (.int .i64 a12)).setCell (p := ⟨Wt.heap.size, 6, none⟩) (by dsimp only; omega) (.bool n12)).setCell (p := ⟨Wt.heap.size, 7, none⟩) (by dsimp only; omega) (.slice d12 l12 c12))⟩)
                          | exact ⟨wm.heap.size, a11, n11, d11, l11, c11, a12, n12, d12, l12, c12, rfl, hz1, bx_new wm _ _, HU1.out.below (below_alloc _ _), HU2.out.below (below_alloc _ _), HQM.out.alloc HQM.out.size _⟩
                    case rest =>
                      obtain ⟨gd, a11, n11, d11, l11, c11, a12, n12, d12, l12, c12, rfl, hgd, hbx, hz11, hz12, hbc⟩ := hcut
                      obtain ⟨we, rfl⟩ : ∃ we, we = wc := ⟨_, rfl⟩
                      have HAE : Hid (Below W0.heap.size W0 we) := HAT.out.trans (hbc.mono HAT.out.size)
                      have HX8E := hidG (HX8T.out.below HX8T.out.lt hbc)
                      have HXUE := hidG (HXUT.out.below HXUT.out.lt hbc)
                      have HF8E := hidG (HF8T.out.below hbc)
                      have HUEE := hidG (HUE.out.below hbc)
                      have HDN : Hid (IsES we (.agg #[.bool true, .bool ho, .int .i64 a11, .bool n11, .slice d11 l11 c11, .int .i64 a12, .bool n12, .slice d12 l12 c12]) true ho d (c - f * d)) := ⟨_, _, _, _, _, _, _, _, _, _, rfl, hz11, hz12⟩
                      clear hbc hz11 hz12 k0 k1 k2 k3 k4 k5 k6 k7 g0 g1 g2
                      have hxu := HXUE.out
                      have k0 := hbx.cell 0
                      have k1 := hbx.cell 1
                      have k2 := hbx.cell 2
                      have k3 := hbx.cell 3
                      have k4 := hbx.cell 4
                      have k5 := hbx.cell 5
                      have k6 := hbx.cell 6
                      have k7 := hbx.cell 7
                      simp only [List.getElem?_cons_zero, List.getElem?_cons_succ] at k0 k1 k2 k3 k4 k5 k6 k7
                      have j0 := hxu.cell 0
                      have j1 := hxu.cell 1
                      have j2 := hxu.cell 2
                      have j3 := hxu.cell 3
                      have j4 := hxu.cell 4
                      have j5 := hxu.cell 5
                      have j6 := hxu.cell 6
                      have j7 := hxu.cell 7
                      simp only [List.getElem?_cons_zero, List.getElem?_cons_succ] at j0 j1 j2 j3 j4 j5 j6 j7
                      clear hbx hxu
                      go_wp2_with fail
                      refine (IH.out ho d (c - f * d) true lo b (a - f * b) _ _ we HUMS.out HDN.out HUEE.out HUEN.out ⟨HLB.out.2.2.2, (by have e1 := HST.out.2.1; have e2 := HST.out.2.2.1; have e3 := HLB.out.2.2.2; omega), HUBD.out.1, HUBD.out.2⟩).mono ?_
                      rintro e wf ⟨z, p, q, rfl, hq, hsim, hbf⟩
                      obtain ⟨a13, n13, d13, l13, c13, a14, n14, d14, l14, c14, rfl, y1, y2⟩ := hq
                      have HP := hidG y1
                      have HQ := hidG y2
                      have HSI := hidG (HUSI.out p q hsim)
                      have HAF : Hid (Below W0.heap.size W0 wf) := HAE.out.trans (hbf.mono HAE.out.size)
                      have HX8F := hidG (HX8E.out.below HX8E.out.lt hbf)
                      have HF8F := hidG (HF8E.out.below hbf)
                      have hzf : gb < wf.heap.size := HX8F.out.lt
                      have hz0 : w.heap.size + 2 < wf.heap.size := by have := HAF.out.size; have := HS0.out; omega
                      clear y1 y2 hsim hbf k0 j0 k1 j1 k2 j2 k3 j3 k4 j4 k5 j5 k6 j6 k7 j7
                      obtain ⟨WG, hWG⟩ : ∃ WG, wf.alloc (.cells #[.int .i64 a13, .bool n13, .slice d13 l13 c13, .int .i64 a14, .bool n14, .slice d14 l14 c14] 70) = WG := ⟨_, rfl⟩
                      have HWG := hidG hWG
                      have HBg : Hid (Below wf.heap.size wf WG) := by show Below wf.heap.size wf WG; rw [← hWG]; exact below_alloc _ _
                      have HSg : Hid (WG.heap.size = wf.heap.size + 1) := by show WG.heap.size = _; rw [← hWG]; simp
                      have hxg_0 : Bx WG (wf.heap.size) [.int .i64 a13, .bool n13, .slice d13 l13 c13, .int .i64 a14, .bool n14, .slice d14 l14 c14] := by
                        rw [← hWG]
                        exact bx_new wf _ _
                      have HXg : Hid (∀ W, Below WG.heap.size WG W → Bx W (wf.heap.size) [.int .i64 a13, .bool n13, .slice d13 l13 c13, .int .i64 a14, .bool n14, .slice d14 l14 c14]) := fun W hW => hxg_0.below hxg_0.lt hW
                      have x0 := hxg_0.cell 0
                      have x1 := hxg_0.cell 1
                      have x2 := hxg_0.cell 2
                      have x3 := hxg_0.cell 3
                      have x4 := hxg_0.cell 4
                      have x5 := hxg_0.cell 5
                      simp only [List.getElem?_cons_zero, List.getElem?_cons_succ] at x0 x1 x2 x3 x4 x5
                      clear hWG hxg_0
                      have HAG : Hid (Below W0.heap.size W0 WG) := HAF.out.trans (HBg.out.mono HAF.out.size)
                      have HX8G := hidG (HX8F.out.below HX8F.out.lt HBg.out)
                      have HF8G := hidG (HF8F.out.below HBg.out)
                      have HPG := hidG (HP.out.below HBg.out)
                      have HQG := hidG (HQ.out.below HBg.out)
                      have hx8 := HX8G.out
                      have g0 := hx8.cell 0
                      have g1 := hx8.cell 1
                      have g2 := hx8.cell 2
                      simp only [List.getElem?_cons_zero, List.getElem?_cons_succ] at g0 g1 g2
                      clear hx8
                      have HSIM : Hid (Sim lo a b true ho c d (f * p + q) p) := by
                        show Sim lo a b true ho c d (f * p + q) p
                        have h9 := HSI.out
                        rw [HFV.out] at h9 ⊢
                        exact Sim.step lo a b ho c d p q (fun h => HFD.out (.inr h)) h9
                      have T16a : Hid (∀ W, Below WG.heap.size WG W → Calls Tryz.prog 49 #[.agg #[.int .i64 a8, .bool n8, .slice d8 l8 c8], .agg #[.int .i64 a13, .bool n13, .slice d13 l13 c13]] W (fun e w' => ∃ z, e = .returned z ∧ NumZ 0 w' z (f * p) 2000 ∧ Below W.heap.size W w')) := fun W hW => by
                        refine (l1MulN_any 0 _ _ f p 1000 1000 W (Nat.zero_le _) (HF8G.out.below hW) (HPG.out.below hW) (by decide) (by decide)).mono ?_
                        rintro e w' ⟨z, rfl, hz, hb⟩
                        refine ⟨z, rfl, numZ_lt hz ?_, hb⟩
                        rw [Int.natAbs_mul]
                        exact lb_mul 1000 1000 (numZ_val HF8G.out) (numZ_val HPG.out)
                      have T16b : Hid (∀ W zp, Below WG.heap.size WG W → NumZ 0 W zp (f * p) 2000 → Calls Tryz.prog 44 #[zp, .agg #[.int .i64 a14, .bool n14, .slice d14 l14 c14]] W (fun e w' => ∃ z, e = .returned z ∧ NumZ 0 w' z (f * p + q) 1000 ∧ Below W.heap.size W w')) := fun W zp hW hz => by
                        refine (l1AddN_any 0 _ _ (f * p) q 2000 1000 W (Nat.zero_le _) hz (HQG.out.below hW) (by decide) (by decide)).mono ?_
                        rintro e w' ⟨z, rfl, hz, hb⟩
                        have hbd := HSIM.out.bound HE.out
                        exact ⟨z, rfl, numZ_lt hz (lb_le 282 1000 (by decide) (sim_lt HLB.out hbd.1 hbd.2.2.1)), hb⟩
                      go_upto_region 16 with fail
                      rw [HWG.out]
                      go_wp2_with fail
                      go_region_held3 (fun W => W.cell? ⟨gb, 0, none⟩ = some (.int .i64 a8) ∧ W.cell? ⟨gb, 1, none⟩ = some (.bool n8) ∧ W.cell? ⟨gb, 2, none⟩ = some (.slice d8 l8 c8) ∧ W.cell? ⟨wf.heap.size, 0, none⟩ = some (.int .i64 a13) ∧ W.cell? ⟨wf.heap.size, 1, none⟩ = some (.bool n13) ∧ W.cell? ⟨wf.heap.size, 2, none⟩ = some (.slice d13 l13 c13) ∧ W.cell? ⟨wf.heap.size, 3, none⟩ = some (.int .i64 a14) ∧ W.cell? ⟨wf.heap.size, 4, none⟩ = some (.bool n14) ∧ W.cell? ⟨wf.heap.size, 5, none⟩ = some (.slice d14 l14 c14)) (first | with_reducible assumption | with_reducible exact putS_9_6 (by with_reducible assumption) (w.heap.size + 1 + 1) (by dsimp only; omega) _ _ _ _ _ _ | go_keep) (first
                        | (go_at_call 49
                           refine (T16a.out _ ?_).mono ?_
                           · exact (Below.refl _ WG).drew
                           rintro e wt1 ⟨u1, rfl, hu, hb⟩
                           have HU1 := hidG hu
                           have HQ1 : Hid (Below WG.heap.size WG wt1) := (Below.refl _ WG).drew.trans hb
                           have hxa := HX8G.out.below HX8G.out.lt HQ1.out
                           have hxc := HXg.out wt1 HQ1.out
                           have hTwt1 : wt1.cell? ⟨gb, 0, none⟩ = some (.int .i64 a8) ∧ wt1.cell? ⟨gb, 1, none⟩ = some (.bool n8) ∧ wt1.cell? ⟨gb, 2, none⟩ = some (.slice d8 l8 c8) ∧ wt1.cell? ⟨wf.heap.size, 0, none⟩ = some (.int .i64 a13) ∧ wt1.cell? ⟨wf.heap.size, 1, none⟩ = some (.bool n13) ∧ wt1.cell? ⟨wf.heap.size, 2, none⟩ = some (.slice d13 l13 c13) ∧ wt1.cell? ⟨wf.heap.size, 3, none⟩ = some (.int .i64 a14) ∧ wt1.cell? ⟨wf.heap.size, 4, none⟩ = some (.bool n14) ∧ wt1.cell? ⟨wf.heap.size, 5, none⟩ = some (.slice d14 l14 c14) := ⟨hxa.cell 0, hxa.cell 1, hxa.cell 2, hxc.cell 0, hxc.cell 1, hxc.cell 2, hxc.cell 3, hxc.cell 4, hxc.cell 5⟩
                           clear hxa hxc
                           clear hu hb)
                        | (go_at_call 44
                           refine (T16b.out _ _ HQ1.out HU1.out).mono ?_
                           rintro e wm ⟨u2, rfl, hu, hb⟩
                           have HU2 := hidG hu
                           have HQM : Hid (Below WG.heap.size WG wm) := HQ1.out.trans (hb.mono HQ1.out.size)
                           obtain ⟨a15, n15, d15, l15, c15, rfl⟩ := hu.shape'
                           have hxa := HX8G.out.below HX8G.out.lt HQM.out
                           have hxc := HXg.out wm HQM.out
                           have hTwm : wm.cell? ⟨gb, 0, none⟩ = some (.int .i64 a8) ∧ wm.cell? ⟨gb, 1, none⟩ = some (.bool n8) ∧ wm.cell? ⟨gb, 2, none⟩ = some (.slice d8 l8 c8) ∧ wm.cell? ⟨wf.heap.size, 0, none⟩ = some (.int .i64 a13) ∧ wm.cell? ⟨wf.heap.size, 1, none⟩ = some (.bool n13) ∧ wm.cell? ⟨wf.heap.size, 2, none⟩ = some (.slice d13 l13 c13) ∧ wm.cell? ⟨wf.heap.size, 3, none⟩ = some (.int .i64 a14) ∧ wm.cell? ⟨wf.heap.size, 4, none⟩ = some (.bool n14) ∧ wm.cell? ⟨wf.heap.size, 5, none⟩ = some (.slice d14 l14 c14) := ⟨hxa.cell 0, hxa.cell 1, hxa.cell 2, hxc.cell 0, hxc.cell 1, hxc.cell 2, hxc.cell 3, hxc.cell 4, hxc.cell 5⟩
                           clear hxa hxc
                           have hxr := (HX0.out wm (HAG.out.trans (HQM.out.mono HAG.out.size))).2.2
                           have r0 := hxr.cell 0
                           have r1 := hxr.cell 1
                           have r2 := hxr.cell 2
                           have r3 := hxr.cell 3
                           have r4 := hxr.cell 4
                           have r5 := hxr.cell 5
                           simp only [List.getElem?_cons_zero, List.getElem?_cons_succ] at r0 r1 r2 r3 r4 r5
                           have rf0 := hxr.frozen 0
                           have rf1 := hxr.frozen 1
                           have rf2 := hxr.frozen 2
                           have rf3 := hxr.frozen 3
                           have rf4 := hxr.frozen 4
                           have rf5 := hxr.frozen 5
                           clear hu hb hxr))
                      all_goals
                        try simp only [List.getElem_toArray, List.getElem_cons_succ, List.getElem_cons_zero, Act.put, List.setIfInBounds_toArray, List.set_cons_succ, List.set_cons_zero]
                        go_wp2
                        have HA9 := HAG.out.trans (HQM.out.mono HAG.out.size)
                        have hbw := (HX0.out wm HA9).2.2
                        have hnR : NoInt wm (w.heap.size + 1 + 1) := noInt_of hbw (by simp)
                        have HKK := keepsC6 wm (w.heap.size + 1 + 1) (.int .i64 a15) (.bool n15) (.slice d15 l15 c15) (.int .i64 a13) (.bool n13) (.slice d13 l13 c13)
                        have hD1 := HU2.out.keeps hnR hnR HKK
                        have hD2 := (HPG.out.below HQM.out).keeps hnR hnR HKK
                        have hB9 : Below w.heap.size w ((((((wm.setCell ⟨w.heap.size + 1 + 1, 0, none⟩ (.int .i64 a15)).setCell ⟨w.heap.size + 1 + 1, 1, none⟩ (.bool n15)).setCell ⟨w.heap.size + 1 + 1, 2, none⟩ (.slice d15 l15 c15)).setCell ⟨w.heap.size + 1 + 1, 3, none⟩ (.int .i64 a13)).setCell ⟨w.heap.size + 1 + 1, 4, none⟩ (.bool n13)).setCell ⟨w.heap.size + 1 + 1, 5, none⟩ (.slice d13 l13 c13)) := (((((((HB0.out.trans (HA9.mono HB0.out.size)).setCell (p := ⟨w.heap.size + 1 + 1, 0, none⟩) (by dsimp only; omega) (.int .i64 a15)).setCell (p := ⟨w.heap.size + 1 + 1, 1, none⟩) (by dsimp only; omega) (.bool n15)).setCell (p := ⟨w.heap.size + 1 + 1, 2, none⟩) (by dsimp only; omega) (.slice d15 l15 c15)).setCell (p := ⟨w.heap.size + 1 + 1, 3, none⟩) (by dsimp only; omega) (.int .i64 a13)).setCell (p := ⟨w.heap.size + 1 + 1, 4, none⟩) (by dsimp only; omega) (.bool n13)).setCell (p := ⟨w.heap.size + 1 + 1, 5, none⟩) (by dsimp only; omega) (.slice d13 l13 c13))
                        have hZ9 : Bx ((((((wm.setCell ⟨w.heap.size + 1 + 1, 0, none⟩ (.int .i64 a15)).setCell ⟨w.heap.size + 1 + 1, 1, none⟩ (.bool n15)).setCell ⟨w.heap.size + 1 + 1, 2, none⟩ (.slice d15 l15 c15)).setCell ⟨w.heap.size + 1 + 1, 3, none⟩ (.int .i64 a13)).setCell ⟨w.heap.size + 1 + 1, 4, none⟩ (.bool n13)).setCell ⟨w.heap.size + 1 + 1, 5, none⟩ (.slice d13 l13 c13)) (w.heap.size + 1 + 1) [.int .i64 a15, .bool n15, .slice d15 l15 c15, .int .i64 a13, .bool n13, .slice d13 l13 c13] := ((((((hbw.set 0 (.int .i64 a15)).set 1 (.bool n15)).set 2 (.slice d15 l15 c15)).set 3 (.int .i64 a13)).set 4 (.bool n13)).set 5 (.slice d13 l13 c13))
                        generalize (((((wm.setCell ⟨w.heap.size + 1 + 1, 0, none⟩ (.int .i64 a15)).setCell ⟨w.heap.size + 1 + 1, 1, none⟩ (.bool n15)).setCell ⟨w.heap.size + 1 + 1, 2, none⟩ (.slice d15 l15 c15)).setCell ⟨w.heap.size + 1 + 1, 3, none⟩ (.int .i64 a13)).setCell ⟨w.heap.size + 1 + 1, 4, none⟩ (.bool n13)).setCell ⟨w.heap.size + 1 + 1, 5, none⟩ (.slice d13 l13 c13) = W9 at *
                        have v0 := hZ9.cell 0
                        have v1 := hZ9.cell 1
                        have v2 := hZ9.cell 2
                        have v3 := hZ9.cell 3
                        have v4 := hZ9.cell 4
                        have v5 := hZ9.cell 5
                        simp only [List.getElem?_cons_zero, List.getElem?_cons_succ] at v0 v1 v2 v3 v4 v5
                        refine bodyPost_ret (v := .agg #[.int .i64 a15, .bool n15, .slice d15 l15 c15, .int .i64 a13, .bool n13, .slice d13 l13 c13]) ?_ rfl ⟨_, _, _, rfl, qn_mk hD1 hD2, HSIM.out, hB9⟩
                        simp [results, Tryz.results125, go_sem, v0, v1, v2, v3, v4, v5]
                · rw [decide_eq_false hne]
                  have HNE := hidG hne
                  clear hne
                  obtain ⟨Wt, rfl⟩ : ∃ Wt, Wt = wv := ⟨_, rfl⟩
                  have HAT := HAV
                  have HX8T := HXV8
                  have HXUT := HXVu
                  have HF8T := HFVv
                  have HUE : Hid (IsES Wt (.agg #[.bool false, .bool false, .int .i64 0, .bool false, .slice none 0 0, .int .i64 0, .bool false, .slice none 0 0]) false false 0 0) := ⟨_, _, _, _, _, _, _, _, _, _, rfl, numZ_nil _, numZ_nil _⟩
                  have HUEN : Hid (Ends ho d (c - f * d) false false 0 0) := ⟨HST.out.2.2.2.b0, HST.out.2.2.2.a0, HST.out.2.2.2.g, HST.out.2.2.2.pos, fun h => by cases h⟩
                  have HUMS : Hid ((c - f * d + (if false = true then (0 : Int) else 0)).toNat ≤ N) := by
                    show (c - f * d + (if false = true then (0 : Int) else 0)).toNat ≤ N
                    have e0 := HBP.out
                    have e2 := HST.out.2.1
                    have e3 := HST.out.2.2.1
                    have e5 := HN.out
                    simp at e5 ⊢
                    omega
                  have HUBD : Hid ((0 : Int).natAbs < lb 281 ∧ (0 : Int).natAbs < lb 281) := by
                    have h1 : (0 : Int).natAbs < lb 281 := Nat.lt_of_lt_of_le (by decide) (Nat.le_of_lt (lb_one 281 (by decide)))
                    exact ⟨h1, h1⟩
                  have HUSI : Hid (∀ p q, Sim ho d (c - f * d) false false 0 0 p q → Sim ho d (c - f * d) (decide (a - f * b ≠ 0)) lo b (a - f * b) p q) := fun p q h => by
                    rw [decide_eq_false HNE.out]
                    rcases h.inv with ⟨_, rfl, rfl⟩ | ⟨h, _⟩
                    ·exact Sim.found _ _ _ _ _ _ _ (.inl rfl)
                    ·cases h
                  have hzt : gb < Wt.heap.size := HX8T.out.lt
                  have hzu : wb.heap.size < Wt.heap.size := HXUT.out.lt
                  have hxb := (HX0.out Wt HAT.out).2.1
                  have hx8 := HX8T.out
                  have k0 := hxb.cell 0
                  have k1 := hxb.cell 1
                  have k2 := hxb.cell 2
                  have k3 := hxb.cell 3
                  have k4 := hxb.cell 4
                  have k5 := hxb.cell 5
                  have k6 := hxb.cell 6
                  have k7 := hxb.cell 7
                  simp only [List.getElem?_cons_zero, List.getElem?_cons_succ] at k0 k1 k2 k3 k4 k5 k6 k7
                  have g0 := hx8.cell 0
                  have g1 := hx8.cell 1
                  have g2 := hx8.cell 2
                  simp only [List.getElem?_cons_zero, List.getElem?_cons_succ] at g0 g1 g2
                  clear hxb hx8
                  have T14 : Hid (∀ W, Below Wt.heap.size Wt W → Calls Tryz.prog 158 #[.agg #[.int .i64 a3, .bool n3, .slice d3 l3 c3, .int .i64 a4, .bool n4, .slice d4 l4 c4], .agg #[.int .i64 a8, .bool n8, .slice d8 l8 c8]] W (fun e w' => ∃ z', e = .returned z' ∧ IsQN 0 w' z' d (c - f * d) ∧ Below W.heap.size W w')) := fun W hW => by
                    have e1 := HST.out.2.1
                    have e2 := HST.out.2.2.1
                    have e3 := HLB.out.2.2.2
                    exact l2Turn_any _ _ c d f W (qn_mk (((H3.out.below HB0.out).below HAT.out).below hW) (((H4.out.below HB0.out).below HAT.out).below hW)) (HF8T.out.below hW) (lb_le 281 1000 (by decide) (by omega))
                  go_upto_region 14 with fail
                  go_cut [8] (fun q8 wx => ∃ (gd : Nat) (a11 : Int) (n11 : Bool) (d11 : Option Addr) (l11 c11 : Nat) (a12 : Int) (n12 : Bool) (d12 : Option Addr) (l12 c12 : Nat), q8 = .pointer (some ⟨gd, 0, none⟩) ∧ Wt.heap.size ≤ gd ∧ Bx wx gd [.bool true, .bool ho, .int .i64 a11, .bool n11, .slice d11 l11 c11, .int .i64 a12, .bool n12, .slice d12 l12 c12] ∧ NumZ 0 wx (.agg #[.int .i64 a11, .bool n11, .slice d11 l11 c11]) (d) 1000 ∧ NumZ 0 wx (.agg #[.int .i64 a12, .bool n12, .slice d12 l12 c12]) (c - f * d) 1000 ∧ Below Wt.heap.size Wt wx)
                  case first =>
                    go_wp2_with fail
                    go_region_held3 (fun W => W.cell? ⟨w.heap.size + 1, 0, none⟩ = some (.bool true) ∧ W.cell? ⟨w.heap.size + 1, 1, none⟩ = some (.bool ho) ∧ W.cell? ⟨w.heap.size + 1, 2, none⟩ = some (.int .i64 a3) ∧ W.cell? ⟨w.heap.size + 1, 3, none⟩ = some (.bool n3) ∧ W.cell? ⟨w.heap.size + 1, 4, none⟩ = some (.slice d3 l3 c3) ∧ W.cell? ⟨w.heap.size + 1, 5, none⟩ = some (.int .i64 a4) ∧ W.cell? ⟨w.heap.size + 1, 6, none⟩ = some (.bool n4) ∧ W.cell? ⟨w.heap.size + 1, 7, none⟩ = some (.slice d4 l4 c4) ∧ W.cell? ⟨gb, 0, none⟩ = some (.int .i64 a8) ∧ W.cell? ⟨gb, 1, none⟩ = some (.bool n8) ∧ W.cell? ⟨gb, 2, none⟩ = some (.slice d8 l8 c8)) (first | with_reducible assumption | with_reducible exact putS_11_8 (by with_reducible assumption) _ (by dsimp only; omega) _ _ _ _ _ _ _ _ | go_keep) (first
                      | (go_at_call 158
                         refine (T14.out _ ?_).mono ?_
                         · repeat' (first | exact Below.refl _ _ | refine Below.drew ?_ | refine Below.alloc ?_ ?_ _ | assumption | (simp; done) | (simp; omega))
                         rintro e wm ⟨u1, rfl, hu, hb⟩
                         obtain ⟨a11, n11, d11, l11, c11, a12, n12, d12, l12, c12, rfl, j1, j2⟩ := hu
                         have HU1 := hidG j1
                         have HU2 := hidG j2
                         have HQM : Hid (Below Wt.heap.size Wt wm) := by
                           show Below Wt.heap.size Wt wm
                           refine Below.trans ?_ (hb.mono ?_)
                           · repeat' (first | exact Below.refl _ _ | refine Below.drew ?_ | refine Below.alloc ?_ ?_ _ | assumption | (simp; done) | (simp; omega))
                           · simp
                         have HK1 := hidG (fun (gg : Nat) (l : List Value) (hx : Bx _ gg l) => hx.below hx.lt hb)
                         have hz1 := HQM.out.size
                         try (have hnb : Bx wm Wt.heap.size [.bool false, .bool false, .int .i64 0, .bool false, .slice none 0 0, .int .i64 0, .bool false, .slice none 0 0] := by with_reducible exact HK1.out _ _ (bx_newD _ _ _))
                         try (have n0' := hnb.cell 0; have nf0' := hnb.frozen 0; have n1' := hnb.cell 1; have nf1' := hnb.frozen 1; have n2' := hnb.cell 2; have nf2' := hnb.frozen 2; have n3' := hnb.cell 3; have nf3' := hnb.frozen 3; have n4' := hnb.cell 4; have nf4' := hnb.frozen 4; have n5' := hnb.cell 5; have nf5' := hnb.frozen 5; have n6' := hnb.cell 6; have nf6' := hnb.frozen 6; have n7' := hnb.cell 7; have nf7' := hnb.frozen 7; simp only [List.getElem?_cons_zero, List.getElem?_cons_succ] at n0' n1' n2' n3' n4' n5' n6' n7')
                         try have HNC := hidG hnb
                         try clear hnb
                         have hxa := (HX0.out wm (HAT.out.trans (HQM.out.mono HAT.out.size))).2.1
                         have hxc := HX8T.out.below HX8T.out.lt HQM.out
                         have hSwm : wm.cell? ⟨w.heap.size + 1, 0, none⟩ = some (.bool true) ∧ wm.cell? ⟨w.heap.size + 1, 1, none⟩ = some (.bool ho) ∧ wm.cell? ⟨w.heap.size + 1, 2, none⟩ = some (.int .i64 a3) ∧ wm.cell? ⟨w.heap.size + 1, 3, none⟩ = some (.bool n3) ∧ wm.cell? ⟨w.heap.size + 1, 4, none⟩ = some (.slice d3 l3 c3) ∧ wm.cell? ⟨w.heap.size + 1, 5, none⟩ = some (.int .i64 a4) ∧ wm.cell? ⟨w.heap.size + 1, 6, none⟩ = some (.bool n4) ∧ wm.cell? ⟨w.heap.size + 1, 7, none⟩ = some (.slice d4 l4 c4) ∧ wm.cell? ⟨gb, 0, none⟩ = some (.int .i64 a8) ∧ wm.cell? ⟨gb, 1, none⟩ = some (.bool n8) ∧ wm.cell? ⟨gb, 2, none⟩ = some (.slice d8 l8 c8) := ⟨hxa.cell 0, hxa.cell 1, hxa.cell 2, hxa.cell 3, hxa.cell 4, hxa.cell 5, hxa.cell 6, hxa.cell 7, hxc.cell 0, hxc.cell 1, hxc.cell 2⟩
                         clear hxa hxc
                         clear j1 j2 hb))
                    all_goals
                      go_wp2_with fail
                      go_meet
                      first
                        | (have hnb := HNC.out
                           exact ⟨_, a11, n11, d11, l11, c11, a12, n12, d12, l12, c12, rfl, Nat.le_refl _, ((((((((hnb.set 0 (.bool true)).set 1 (.bool ho)).set 2 (.int .i64 a11)).set 3 (.bool n11)).set 4 (.slice d11 l11 c11)).set 5 (.int .i64 a12)).set 6 (.bool n12)).set 7 (.slice d12 l12 c12)), HU1.out.keeps (noInt_of hnb (by simp)) (noInt_of hnb (by simp)) (keepsC8 wm _ _ _ _ _ _ _ _ _), HU2.out.keeps (noInt_of hnb (by simp)) (noInt_of hnb (by simp)) (keepsC8 wm _ _ _ _ _ _ _ _ _), ((((((((HQM.out.setCell (p := ⟨Wt.heap.size, 0, none⟩) (by dsimp only; omega) (.bool true)).setCell (p := ⟨Wt.heap.size, 1, none⟩) (by dsimp only; omega) (.bool ho)).setCell (p := ⟨Wt.heap.size, 2, none⟩) (by dsimp only; omega) (.int .i64 a11)).setCell (p := ⟨Wt.heap.size, 3, none⟩) (by dsimp only; omega) (.bool n11)).setCell (p := ⟨Wt.heap.size, 4, none⟩) (by dsimp only; omega) (.slice d11 l11 c11)).setCell (p := ⟨Wt.heap.size, 5, none⟩) (by dsimp only; omega) (.int .i64 a12)).setCell (p := ⟨Wt.heap.size, 6, none⟩) (by dsimp only; omega) (.bool n12)).setCell (p := ⟨Wt.heap.size, 7, none⟩) (by dsimp only; omega) (.slice d12 l12 c12))⟩)
                        | exact ⟨wm.heap.size, a11, n11, d11, l11, c11, a12, n12, d12, l12, c12, rfl, hz1, bx_new wm _ _, HU1.out.below (below_alloc _ _), HU2.out.below (below_alloc _ _), HQM.out.alloc HQM.out.size _⟩
                  case rest =>
                    obtain ⟨gd, a11, n11, d11, l11, c11, a12, n12, d12, l12, c12, rfl, hgd, hbx, hz11, hz12, hbc⟩ := hcut
                    obtain ⟨we, rfl⟩ : ∃ we, we = wc := ⟨_, rfl⟩
                    have HAE : Hid (Below W0.heap.size W0 we) := HAT.out.trans (hbc.mono HAT.out.size)
                    have HX8E := hidG (HX8T.out.below HX8T.out.lt hbc)
                    have HXUE := hidG (HXUT.out.below HXUT.out.lt hbc)
                    have HF8E := hidG (HF8T.out.below hbc)
                    have HUEE := hidG (HUE.out.below hbc)
                    have HDN : Hid (IsES we (.agg #[.bool true, .bool ho, .int .i64 a11, .bool n11, .slice d11 l11 c11, .int .i64 a12, .bool n12, .slice d12 l12 c12]) true ho d (c - f * d)) := ⟨_, _, _, _, _, _, _, _, _, _, rfl, hz11, hz12⟩
                    clear hbc hz11 hz12 k0 k1 k2 k3 k4 k5 k6 k7 g0 g1 g2
                    have hxu := HXUE.out
                    have k0 := hbx.cell 0
                    have k1 := hbx.cell 1
                    have k2 := hbx.cell 2
                    have k3 := hbx.cell 3
                    have k4 := hbx.cell 4
                    have k5 := hbx.cell 5
                    have k6 := hbx.cell 6
                    have k7 := hbx.cell 7
                    simp only [List.getElem?_cons_zero, List.getElem?_cons_succ] at k0 k1 k2 k3 k4 k5 k6 k7
                    have j0 := hxu.cell 0
                    have j1 := hxu.cell 1
                    have j2 := hxu.cell 2
                    have j3 := hxu.cell 3
                    have j4 := hxu.cell 4
                    have j5 := hxu.cell 5
                    have j6 := hxu.cell 6
                    have j7 := hxu.cell 7
                    simp only [List.getElem?_cons_zero, List.getElem?_cons_succ] at j0 j1 j2 j3 j4 j5 j6 j7
                    clear hbx hxu
                    go_wp2_with fail
                    refine (IH.out ho d (c - f * d) false false 0 0 _ _ we HUMS.out HDN.out HUEE.out HUEN.out ⟨HLB.out.2.2.2, (by have e1 := HST.out.2.1; have e2 := HST.out.2.2.1; have e3 := HLB.out.2.2.2; omega), HUBD.out.1, HUBD.out.2⟩).mono ?_
                    rintro e wf ⟨z, p, q, rfl, hq, hsim, hbf⟩
                    obtain ⟨a13, n13, d13, l13, c13, a14, n14, d14, l14, c14, rfl, y1, y2⟩ := hq
                    have HP := hidG y1
                    have HQ := hidG y2
                    have HSI := hidG (HUSI.out p q hsim)
                    have HAF : Hid (Below W0.heap.size W0 wf) := HAE.out.trans (hbf.mono HAE.out.size)
                    have HX8F := hidG (HX8E.out.below HX8E.out.lt hbf)
                    have HF8F := hidG (HF8E.out.below hbf)
                    have hzf : gb < wf.heap.size := HX8F.out.lt
                    have hz0 : w.heap.size + 2 < wf.heap.size := by have := HAF.out.size; have := HS0.out; omega
                    clear y1 y2 hsim hbf k0 j0 k1 j1 k2 j2 k3 j3 k4 j4 k5 j5 k6 j6 k7 j7
                    obtain ⟨WG, hWG⟩ : ∃ WG, wf.alloc (.cells #[.int .i64 a13, .bool n13, .slice d13 l13 c13, .int .i64 a14, .bool n14, .slice d14 l14 c14] 70) = WG := ⟨_, rfl⟩
                    have HWG := hidG hWG
                    have HBg : Hid (Below wf.heap.size wf WG) := by show Below wf.heap.size wf WG; rw [← hWG]; exact below_alloc _ _
                    have HSg : Hid (WG.heap.size = wf.heap.size + 1) := by show WG.heap.size = _; rw [← hWG]; simp
                    have hxg_0 : Bx WG (wf.heap.size) [.int .i64 a13, .bool n13, .slice d13 l13 c13, .int .i64 a14, .bool n14, .slice d14 l14 c14] := by
                      rw [← hWG]
                      exact bx_new wf _ _
                    have HXg : Hid (∀ W, Below WG.heap.size WG W → Bx W (wf.heap.size) [.int .i64 a13, .bool n13, .slice d13 l13 c13, .int .i64 a14, .bool n14, .slice d14 l14 c14]) := fun W hW => hxg_0.below hxg_0.lt hW
                    have x0 := hxg_0.cell 0
                    have x1 := hxg_0.cell 1
                    have x2 := hxg_0.cell 2
                    have x3 := hxg_0.cell 3
                    have x4 := hxg_0.cell 4
                    have x5 := hxg_0.cell 5
                    simp only [List.getElem?_cons_zero, List.getElem?_cons_succ] at x0 x1 x2 x3 x4 x5
                    clear hWG hxg_0
                    have HAG : Hid (Below W0.heap.size W0 WG) := HAF.out.trans (HBg.out.mono HAF.out.size)
                    have HX8G := hidG (HX8F.out.below HX8F.out.lt HBg.out)
                    have HF8G := hidG (HF8F.out.below HBg.out)
                    have HPG := hidG (HP.out.below HBg.out)
                    have HQG := hidG (HQ.out.below HBg.out)
                    have hx8 := HX8G.out
                    have g0 := hx8.cell 0
                    have g1 := hx8.cell 1
                    have g2 := hx8.cell 2
                    simp only [List.getElem?_cons_zero, List.getElem?_cons_succ] at g0 g1 g2
                    clear hx8
                    have HSIM : Hid (Sim lo a b true ho c d (f * p + q) p) := by
                      show Sim lo a b true ho c d (f * p + q) p
                      have h9 := HSI.out
                      rw [HFV.out] at h9 ⊢
                      exact Sim.step lo a b ho c d p q (fun h => HFD.out (.inr h)) h9
                    have T16a : Hid (∀ W, Below WG.heap.size WG W → Calls Tryz.prog 49 #[.agg #[.int .i64 a8, .bool n8, .slice d8 l8 c8], .agg #[.int .i64 a13, .bool n13, .slice d13 l13 c13]] W (fun e w' => ∃ z, e = .returned z ∧ NumZ 0 w' z (f * p) 2000 ∧ Below W.heap.size W w')) := fun W hW => by
                      refine (l1MulN_any 0 _ _ f p 1000 1000 W (Nat.zero_le _) (HF8G.out.below hW) (HPG.out.below hW) (by decide) (by decide)).mono ?_
                      rintro e w' ⟨z, rfl, hz, hb⟩
                      refine ⟨z, rfl, numZ_lt hz ?_, hb⟩
                      rw [Int.natAbs_mul]
                      exact lb_mul 1000 1000 (numZ_val HF8G.out) (numZ_val HPG.out)
                    have T16b : Hid (∀ W zp, Below WG.heap.size WG W → NumZ 0 W zp (f * p) 2000 → Calls Tryz.prog 44 #[zp, .agg #[.int .i64 a14, .bool n14, .slice d14 l14 c14]] W (fun e w' => ∃ z, e = .returned z ∧ NumZ 0 w' z (f * p + q) 1000 ∧ Below W.heap.size W w')) := fun W zp hW hz => by
                      refine (l1AddN_any 0 _ _ (f * p) q 2000 1000 W (Nat.zero_le _) hz (HQG.out.below hW) (by decide) (by decide)).mono ?_
                      rintro e w' ⟨z, rfl, hz, hb⟩
                      have hbd := HSIM.out.bound HE.out
                      exact ⟨z, rfl, numZ_lt hz (lb_le 282 1000 (by decide) (sim_lt HLB.out hbd.1 hbd.2.2.1)), hb⟩
                    go_upto_region 16 with fail
                    rw [HWG.out]
                    go_wp2_with fail
                    go_region_held3 (fun W => W.cell? ⟨gb, 0, none⟩ = some (.int .i64 a8) ∧ W.cell? ⟨gb, 1, none⟩ = some (.bool n8) ∧ W.cell? ⟨gb, 2, none⟩ = some (.slice d8 l8 c8) ∧ W.cell? ⟨wf.heap.size, 0, none⟩ = some (.int .i64 a13) ∧ W.cell? ⟨wf.heap.size, 1, none⟩ = some (.bool n13) ∧ W.cell? ⟨wf.heap.size, 2, none⟩ = some (.slice d13 l13 c13) ∧ W.cell? ⟨wf.heap.size, 3, none⟩ = some (.int .i64 a14) ∧ W.cell? ⟨wf.heap.size, 4, none⟩ = some (.bool n14) ∧ W.cell? ⟨wf.heap.size, 5, none⟩ = some (.slice d14 l14 c14)) (first | with_reducible assumption | with_reducible exact putS_9_6 (by with_reducible assumption) (w.heap.size + 1 + 1) (by dsimp only; omega) _ _ _ _ _ _ | go_keep) (first
                      | (go_at_call 49
                         refine (T16a.out _ ?_).mono ?_
                         · exact (Below.refl _ WG).drew
                         rintro e wt1 ⟨u1, rfl, hu, hb⟩
                         have HU1 := hidG hu
                         have HQ1 : Hid (Below WG.heap.size WG wt1) := (Below.refl _ WG).drew.trans hb
                         have hxa := HX8G.out.below HX8G.out.lt HQ1.out
                         have hxc := HXg.out wt1 HQ1.out
                         have hTwt1 : wt1.cell? ⟨gb, 0, none⟩ = some (.int .i64 a8) ∧ wt1.cell? ⟨gb, 1, none⟩ = some (.bool n8) ∧ wt1.cell? ⟨gb, 2, none⟩ = some (.slice d8 l8 c8) ∧ wt1.cell? ⟨wf.heap.size, 0, none⟩ = some (.int .i64 a13) ∧ wt1.cell? ⟨wf.heap.size, 1, none⟩ = some (.bool n13) ∧ wt1.cell? ⟨wf.heap.size, 2, none⟩ = some (.slice d13 l13 c13) ∧ wt1.cell? ⟨wf.heap.size, 3, none⟩ = some (.int .i64 a14) ∧ wt1.cell? ⟨wf.heap.size, 4, none⟩ = some (.bool n14) ∧ wt1.cell? ⟨wf.heap.size, 5, none⟩ = some (.slice d14 l14 c14) := ⟨hxa.cell 0, hxa.cell 1, hxa.cell 2, hxc.cell 0, hxc.cell 1, hxc.cell 2, hxc.cell 3, hxc.cell 4, hxc.cell 5⟩
                         clear hxa hxc
                         clear hu hb)
                      | (go_at_call 44
                         refine (T16b.out _ _ HQ1.out HU1.out).mono ?_
                         rintro e wm ⟨u2, rfl, hu, hb⟩
                         have HU2 := hidG hu
                         have HQM : Hid (Below WG.heap.size WG wm) := HQ1.out.trans (hb.mono HQ1.out.size)
                         obtain ⟨a15, n15, d15, l15, c15, rfl⟩ := hu.shape'
                         have hxa := HX8G.out.below HX8G.out.lt HQM.out
                         have hxc := HXg.out wm HQM.out
                         have hTwm : wm.cell? ⟨gb, 0, none⟩ = some (.int .i64 a8) ∧ wm.cell? ⟨gb, 1, none⟩ = some (.bool n8) ∧ wm.cell? ⟨gb, 2, none⟩ = some (.slice d8 l8 c8) ∧ wm.cell? ⟨wf.heap.size, 0, none⟩ = some (.int .i64 a13) ∧ wm.cell? ⟨wf.heap.size, 1, none⟩ = some (.bool n13) ∧ wm.cell? ⟨wf.heap.size, 2, none⟩ = some (.slice d13 l13 c13) ∧ wm.cell? ⟨wf.heap.size, 3, none⟩ = some (.int .i64 a14) ∧ wm.cell? ⟨wf.heap.size, 4, none⟩ = some (.bool n14) ∧ wm.cell? ⟨wf.heap.size, 5, none⟩ = some (.slice d14 l14 c14) := ⟨hxa.cell 0, hxa.cell 1, hxa.cell 2, hxc.cell 0, hxc.cell 1, hxc.cell 2, hxc.cell 3, hxc.cell 4, hxc.cell 5⟩
                         clear hxa hxc
                         have hxr := (HX0.out wm (HAG.out.trans (HQM.out.mono HAG.out.size))).2.2
                         have r0 := hxr.cell 0
                         have r1 := hxr.cell 1
                         have r2 := hxr.cell 2
                         have r3 := hxr.cell 3
                         have r4 := hxr.cell 4
                         have r5 := hxr.cell 5
                         simp only [List.getElem?_cons_zero, List.getElem?_cons_succ] at r0 r1 r2 r3 r4 r5
                         have rf0 := hxr.frozen 0
                         have rf1 := hxr.frozen 1
                         have rf2 := hxr.frozen 2
                         have rf3 := hxr.frozen 3
                         have rf4 := hxr.frozen 4
                         have rf5 := hxr.frozen 5
                         clear hu hb hxr))
                    all_goals
                      try simp only [List.getElem_toArray, List.getElem_cons_succ, List.getElem_cons_zero, Act.put, List.setIfInBounds_toArray, List.set_cons_succ, List.set_cons_zero]
                      go_wp2
                      have HA9 := HAG.out.trans (HQM.out.mono HAG.out.size)
                      have hbw := (HX0.out wm HA9).2.2
                      have hnR : NoInt wm (w.heap.size + 1 + 1) := noInt_of hbw (by simp)
                      have HKK := keepsC6 wm (w.heap.size + 1 + 1) (.int .i64 a15) (.bool n15) (.slice d15 l15 c15) (.int .i64 a13) (.bool n13) (.slice d13 l13 c13)
                      have hD1 := HU2.out.keeps hnR hnR HKK
                      have hD2 := (HPG.out.below HQM.out).keeps hnR hnR HKK
                      have hB9 : Below w.heap.size w ((((((wm.setCell ⟨w.heap.size + 1 + 1, 0, none⟩ (.int .i64 a15)).setCell ⟨w.heap.size + 1 + 1, 1, none⟩ (.bool n15)).setCell ⟨w.heap.size + 1 + 1, 2, none⟩ (.slice d15 l15 c15)).setCell ⟨w.heap.size + 1 + 1, 3, none⟩ (.int .i64 a13)).setCell ⟨w.heap.size + 1 + 1, 4, none⟩ (.bool n13)).setCell ⟨w.heap.size + 1 + 1, 5, none⟩ (.slice d13 l13 c13)) := (((((((HB0.out.trans (HA9.mono HB0.out.size)).setCell (p := ⟨w.heap.size + 1 + 1, 0, none⟩) (by dsimp only; omega) (.int .i64 a15)).setCell (p := ⟨w.heap.size + 1 + 1, 1, none⟩) (by dsimp only; omega) (.bool n15)).setCell (p := ⟨w.heap.size + 1 + 1, 2, none⟩) (by dsimp only; omega) (.slice d15 l15 c15)).setCell (p := ⟨w.heap.size + 1 + 1, 3, none⟩) (by dsimp only; omega) (.int .i64 a13)).setCell (p := ⟨w.heap.size + 1 + 1, 4, none⟩) (by dsimp only; omega) (.bool n13)).setCell (p := ⟨w.heap.size + 1 + 1, 5, none⟩) (by dsimp only; omega) (.slice d13 l13 c13))
                      have hZ9 : Bx ((((((wm.setCell ⟨w.heap.size + 1 + 1, 0, none⟩ (.int .i64 a15)).setCell ⟨w.heap.size + 1 + 1, 1, none⟩ (.bool n15)).setCell ⟨w.heap.size + 1 + 1, 2, none⟩ (.slice d15 l15 c15)).setCell ⟨w.heap.size + 1 + 1, 3, none⟩ (.int .i64 a13)).setCell ⟨w.heap.size + 1 + 1, 4, none⟩ (.bool n13)).setCell ⟨w.heap.size + 1 + 1, 5, none⟩ (.slice d13 l13 c13)) (w.heap.size + 1 + 1) [.int .i64 a15, .bool n15, .slice d15 l15 c15, .int .i64 a13, .bool n13, .slice d13 l13 c13] := ((((((hbw.set 0 (.int .i64 a15)).set 1 (.bool n15)).set 2 (.slice d15 l15 c15)).set 3 (.int .i64 a13)).set 4 (.bool n13)).set 5 (.slice d13 l13 c13))
                      generalize (((((wm.setCell ⟨w.heap.size + 1 + 1, 0, none⟩ (.int .i64 a15)).setCell ⟨w.heap.size + 1 + 1, 1, none⟩ (.bool n15)).setCell ⟨w.heap.size + 1 + 1, 2, none⟩ (.slice d15 l15 c15)).setCell ⟨w.heap.size + 1 + 1, 3, none⟩ (.int .i64 a13)).setCell ⟨w.heap.size + 1 + 1, 4, none⟩ (.bool n13)).setCell ⟨w.heap.size + 1 + 1, 5, none⟩ (.slice d13 l13 c13) = W9 at *
                      have v0 := hZ9.cell 0
                      have v1 := hZ9.cell 1
                      have v2 := hZ9.cell 2
                      have v3 := hZ9.cell 3
                      have v4 := hZ9.cell 4
                      have v5 := hZ9.cell 5
                      simp only [List.getElem?_cons_zero, List.getElem?_cons_succ] at v0 v1 v2 v3 v4 v5
                      refine bodyPost_ret (v := .agg #[.int .i64 a15, .bool n15, .slice d15 l15 c15, .int .i64 a13, .bool n13, .slice d13 l13 c13]) ?_ rfl ⟨_, _, _, rfl, qn_mk hD1 hD2, HSIM.out, hB9⟩
                      simp [results, Tryz.results125, go_sem, v0, v1, v2, v3, v4, v5]
theorem low_ord (o1 : Bool) (x1 : Int) : (!lowOut true o1 x1) = (decide (ordI x1 0 < 0) || (decide (ordI x1 0 = 0) && !o1)) := by
 unfold lowOut ordI
 rcases Int.lt_trichotomy x1 0 with h | h | h
 ·rw [if_pos h]
  have a : ¬ 0 < x1 := by omega
  have b : x1 ≠ 0 := by omega
  simp [a, b]
 ·subst h; cases o1 <;> simp
 ·rw [if_neg (by omega), if_pos h]; simp [h]
theorem high_ord (o2 : Bool) (x2 : Int) : (!highOut true o2 x2) = (decide (0 < ordI x2 0) || (decide (ordI x2 0 = 0) && !o2)) := by
 unfold highOut ordI
 rcases Int.lt_trichotomy x2 0 with h | h | h
 ·rw [if_pos h]; simp [h]
 ·subst h; cases o2 <;> simp
 ·rw [if_neg (by omega), if_pos h]
  have a : ¬ x2 < 0 := by omega
  have b : x2 ≠ 0 := by omega
  simp [a, b]
theorem putS_16_6 {W : World} {a0 a1 a2 a3 a4 a5 a6 a7 a8 a9 a10 a11 a12 a13 a14 a15 : Addr} {v0 v1 v2 v3 v4 v5 v6 v7 v8 v9 v10 v11 v12 v13 v14 v15 : Value} (m : W.cell? a0 = some v0 ∧ W.cell? a1 = some v1 ∧ W.cell? a2 = some v2 ∧ W.cell? a3 = some v3 ∧ W.cell? a4 = some v4 ∧ W.cell? a5 = some v5 ∧ W.cell? a6 = some v6 ∧ W.cell? a7 = some v7 ∧ W.cell? a8 = some v8 ∧ W.cell? a9 = some v9 ∧ W.cell? a10 = some v10 ∧ W.cell? a11 = some v11 ∧ W.cell? a12 = some v12 ∧ W.cell? a13 = some v13 ∧ W.cell? a14 = some v14 ∧ W.cell? a15 = some v15) (g : Nat) (h : g ≠ a0.block ∧ g ≠ a1.block ∧ g ≠ a2.block ∧ g ≠ a3.block ∧ g ≠ a4.block ∧ g ≠ a5.block ∧ g ≠ a6.block ∧ g ≠ a7.block ∧ g ≠ a8.block ∧ g ≠ a9.block ∧ g ≠ a10.block ∧ g ≠ a11.block ∧ g ≠ a12.block ∧ g ≠ a13.block ∧ g ≠ a14.block ∧ g ≠ a15.block) (u0 u1 u2 u3 u4 u5 : Value) : ((((((W.setCell ⟨g, 0, none⟩ (u0)).setCell ⟨g, 1, none⟩ (u1)).setCell ⟨g, 2, none⟩ (u2)).setCell ⟨g, 3, none⟩ (u3)).setCell ⟨g, 4, none⟩ (u4)).setCell ⟨g, 5, none⟩ (u5)).cell? a0 = some v0 ∧ ((((((W.setCell ⟨g, 0, none⟩ (u0)).setCell ⟨g, 1, none⟩ (u1)).setCell ⟨g, 2, none⟩ (u2)).setCell ⟨g, 3, none⟩ (u3)).setCell ⟨g, 4, none⟩ (u4)).setCell ⟨g, 5, none⟩ (u5)).cell? a1 = some v1 ∧ ((((((W.setCell ⟨g, 0, none⟩ (u0)).setCell ⟨g, 1, none⟩ (u1)).setCell ⟨g, 2, none⟩ (u2)).setCell ⟨g, 3, none⟩ (u3)).setCell ⟨g, 4, none⟩ (u4)).setCell ⟨g, 5, none⟩ (u5)).cell? a2 = some v2 ∧ ((((((W.setCell ⟨g, 0, none⟩ (u0)).setCell ⟨g, 1, none⟩ (u1)).setCell ⟨g, 2, none⟩ (u2)).setCell ⟨g, 3, none⟩ (u3)).setCell ⟨g, 4, none⟩ (u4)).setCell ⟨g, 5, none⟩ (u5)).cell? a3 = some v3 ∧ ((((((W.setCell ⟨g, 0, none⟩ (u0)).setCell ⟨g, 1, none⟩ (u1)).setCell ⟨g, 2, none⟩ (u2)).setCell ⟨g, 3, none⟩ (u3)).setCell ⟨g, 4, none⟩ (u4)).setCell ⟨g, 5, none⟩ (u5)).cell? a4 = some v4 ∧ ((((((W.setCell ⟨g, 0, none⟩ (u0)).setCell ⟨g, 1, none⟩ (u1)).setCell ⟨g, 2, none⟩ (u2)).setCell ⟨g, 3, none⟩ (u3)).setCell ⟨g, 4, none⟩ (u4)).setCell ⟨g, 5, none⟩ (u5)).cell? a5 = some v5 ∧ ((((((W.setCell ⟨g, 0, none⟩ (u0)).setCell ⟨g, 1, none⟩ (u1)).setCell ⟨g, 2, none⟩ (u2)).setCell ⟨g, 3, none⟩ (u3)).setCell ⟨g, 4, none⟩ (u4)).setCell ⟨g, 5, none⟩ (u5)).cell? a6 = some v6 ∧ ((((((W.setCell ⟨g, 0, none⟩ (u0)).setCell ⟨g, 1, none⟩ (u1)).setCell ⟨g, 2, none⟩ (u2)).setCell ⟨g, 3, none⟩ (u3)).setCell ⟨g, 4, none⟩ (u4)).setCell ⟨g, 5, none⟩ (u5)).cell? a7 = some v7 ∧ ((((((W.setCell ⟨g, 0, none⟩ (u0)).setCell ⟨g, 1, none⟩ (u1)).setCell ⟨g, 2, none⟩ (u2)).setCell ⟨g, 3, none⟩ (u3)).setCell ⟨g, 4, none⟩ (u4)).setCell ⟨g, 5, none⟩ (u5)).cell? a8 = some v8 ∧ ((((((W.setCell ⟨g, 0, none⟩ (u0)).setCell ⟨g, 1, none⟩ (u1)).setCell ⟨g, 2, none⟩ (u2)).setCell ⟨g, 3, none⟩ (u3)).setCell ⟨g, 4, none⟩ (u4)).setCell ⟨g, 5, none⟩ (u5)).cell? a9 = some v9 ∧ ((((((W.setCell ⟨g, 0, none⟩ (u0)).setCell ⟨g, 1, none⟩ (u1)).setCell ⟨g, 2, none⟩ (u2)).setCell ⟨g, 3, none⟩ (u3)).setCell ⟨g, 4, none⟩ (u4)).setCell ⟨g, 5, none⟩ (u5)).cell? a10 = some v10 ∧ ((((((W.setCell ⟨g, 0, none⟩ (u0)).setCell ⟨g, 1, none⟩ (u1)).setCell ⟨g, 2, none⟩ (u2)).setCell ⟨g, 3, none⟩ (u3)).setCell ⟨g, 4, none⟩ (u4)).setCell ⟨g, 5, none⟩ (u5)).cell? a11 = some v11 ∧ ((((((W.setCell ⟨g, 0, none⟩ (u0)).setCell ⟨g, 1, none⟩ (u1)).setCell ⟨g, 2, none⟩ (u2)).setCell ⟨g, 3, none⟩ (u3)).setCell ⟨g, 4, none⟩ (u4)).setCell ⟨g, 5, none⟩ (u5)).cell? a12 = some v12 ∧ ((((((W.setCell ⟨g, 0, none⟩ (u0)).setCell ⟨g, 1, none⟩ (u1)).setCell ⟨g, 2, none⟩ (u2)).setCell ⟨g, 3, none⟩ (u3)).setCell ⟨g, 4, none⟩ (u4)).setCell ⟨g, 5, none⟩ (u5)).cell? a13 = some v13 ∧ ((((((W.setCell ⟨g, 0, none⟩ (u0)).setCell ⟨g, 1, none⟩ (u1)).setCell ⟨g, 2, none⟩ (u2)).setCell ⟨g, 3, none⟩ (u3)).setCell ⟨g, 4, none⟩ (u4)).setCell ⟨g, 5, none⟩ (u5)).cell? a14 = some v14 ∧ ((((((W.setCell ⟨g, 0, none⟩ (u0)).setCell ⟨g, 1, none⟩ (u1)).setCell ⟨g, 2, none⟩ (u2)).setCell ⟨g, 3, none⟩ (u3)).setCell ⟨g, 4, none⟩ (u4)).setCell ⟨g, 5, none⟩ (u5)).cell? a15 = some v15 :=
 ⟨cell_farC6 g m.1 h.1 _ _ _ _ _ _, cell_farC6 g m.2.1 h.2.1 _ _ _ _ _ _, cell_farC6 g m.2.2.1 h.2.2.1 _ _ _ _ _ _, cell_farC6 g m.2.2.2.1 h.2.2.2.1 _ _ _ _ _ _, cell_farC6 g m.2.2.2.2.1 h.2.2.2.2.1 _ _ _ _ _ _, cell_farC6 g m.2.2.2.2.2.1 h.2.2.2.2.2.1 _ _ _ _ _ _, cell_farC6 g m.2.2.2.2.2.2.1 h.2.2.2.2.2.2.1 _ _ _ _ _ _, cell_farC6 g m.2.2.2.2.2.2.2.1 h.2.2.2.2.2.2.2.1 _ _ _ _ _ _, cell_farC6 g m.2.2.2.2.2.2.2.2.1 h.2.2.2.2.2.2.2.2.1 _ _ _ _ _ _, cell_farC6 g m.2.2.2.2.2.2.2.2.2.1 h.2.2.2.2.2.2.2.2.2.1 _ _ _ _ _ _, cell_farC6 g m.2.2.2.2.2.2.2.2.2.2.1 h.2.2.2.2.2.2.2.2.2.2.1 _ _ _ _ _ _, cell_farC6 g m.2.2.2.2.2.2.2.2.2.2.2.1 h.2.2.2.2.2.2.2.2.2.2.2.1 _ _ _ _ _ _, cell_farC6 g m.2.2.2.2.2.2.2.2.2.2.2.2.1 h.2.2.2.2.2.2.2.2.2.2.2.2.1 _ _ _ _ _ _, cell_farC6 g m.2.2.2.2.2.2.2.2.2.2.2.2.2.1 h.2.2.2.2.2.2.2.2.2.2.2.2.2.1 _ _ _ _ _ _, cell_farC6 g m.2.2.2.2.2.2.2.2.2.2.2.2.2.2.1 h.2.2.2.2.2.2.2.2.2.2.2.2.2.2.1 _ _ _ _ _ _, cell_farC6 g m.2.2.2.2.2.2.2.2.2.2.2.2.2.2.2 h.2.2.2.2.2.2.2.2.2.2.2.2.2.2.2 _ _ _ _ _ _⟩
set_option maxRecDepth 100000 in
set_option maxHeartbeats 8000000 in
theorem l2Best_any (zl zh : Value) (h1 o1 : Bool) (x1 y1 : Int) (h2 o2 : Bool) (x2 y2 : Int) (w : World) (hl : IsES w zl h1 o1 x1 y1) (hh : IsES w zh h2 o2 x2 y2) (t : Two h1 o1 x1 y1 h2 o2 x2 y2)
    (hb : x1.natAbs < lb 281 ∧ y1.natAbs < lb 281 ∧ x2.natAbs < lb 281 ∧ y2.natAbs < lb 281) :
    Calls Tryz.prog 73 #[zl, zh] w fun e w' => ∃ z p q, e = .returned z ∧ IsQN 0 w' z p q ∧ Best h1 o1 x1 y1 h2 o2 x2 y2 p q ∧ Below w.heap.size w w' := by
  obtain ⟨a1, n1, d1, l1, c1, a2, n2, d2, l2, c2, rfl, i1, i2⟩ := hl
  obtain ⟨a3, n3, d3, l3, c3, a4, n4, d4, l4, c4, rfl, i3, i4⟩ := hh
  have H1 := hidG i1
  have H2 := hidG i2
  have H3 := hidG i3
  have H4 := hidG i4
  have HT := hidG t
  have HLB := hidG hb
  clear i1 i2 i3 i4 t hb
  obtain ⟨W0, hW0⟩ : ∃ W0, ((w.alloc (.cells #[.bool h1, .bool o1, .int .i64 a1, .bool n1, .slice d1 l1 c1, .int .i64 a2, .bool n2, .slice d2 l2 c2] 88)).alloc (.cells #[.bool h2, .bool o2, .int .i64 a3, .bool n3, .slice d3 l3 c3, .int .i64 a4, .bool n4, .slice d4 l4 c4] 88)).alloc (.cells #[.int .i64 0, .bool false, .slice none 0 0, .int .i64 0, .bool false, .slice none 0 0] 70) = W0 := ⟨_, rfl⟩
  have HW0 := hidG hW0
  have HB0 : Hid (Below w.heap.size w W0) := by show Below w.heap.size w W0; rw [← hW0]; exact below_al (below_al (below_alloc _ _) _) _
  have HS0 : Hid (W0.heap.size = w.heap.size + 3) := by show W0.heap.size = _; rw [← hW0]; simp
  have hx0_0 : Bx W0 (w.heap.size) [.bool h1, .bool o1, .int .i64 a1, .bool n1, .slice d1 l1 c1, .int .i64 a2, .bool n2, .slice d2 l2 c2] := by
    rw [← hW0]
    exact ((bx_new w _ _).alloc _).alloc _
  have hx0_1 : Bx W0 (w.heap.size + 1) [.bool h2, .bool o2, .int .i64 a3, .bool n3, .slice d3 l3 c3, .int .i64 a4, .bool n4, .slice d4 l4 c4] := by
    rw [← hW0]
    have h := bx_new (w.alloc (.cells #[.bool h1, .bool o1, .int .i64 a1, .bool n1, .slice d1 l1 c1, .int .i64 a2, .bool n2, .slice d2 l2 c2] 88)) [.bool h2, .bool o2, .int .i64 a3, .bool n3, .slice d3 l3 c3, .int .i64 a4, .bool n4, .slice d4 l4 c4] 88
    rw [World.size_alloc] at h
    exact (h).alloc _
  have hx0_2 : Bx W0 (w.heap.size + 1 + 1) [.int .i64 0, .bool false, .slice none 0 0, .int .i64 0, .bool false, .slice none 0 0] := by
    rw [← hW0]
    have h := bx_new ((w.alloc (.cells #[.bool h1, .bool o1, .int .i64 a1, .bool n1, .slice d1 l1 c1, .int .i64 a2, .bool n2, .slice d2 l2 c2] 88)).alloc (.cells #[.bool h2, .bool o2, .int .i64 a3, .bool n3, .slice d3 l3 c3, .int .i64 a4, .bool n4, .slice d4 l4 c4] 88)) [.int .i64 0, .bool false, .slice none 0 0, .int .i64 0, .bool false, .slice none 0 0] 70
    rw [World.size_alloc, World.size_alloc] at h
    exact h
  have HX0 : Hid (∀ W, Below W0.heap.size W0 W → Bx W (w.heap.size) [.bool h1, .bool o1, .int .i64 a1, .bool n1, .slice d1 l1 c1, .int .i64 a2, .bool n2, .slice d2 l2 c2] ∧ Bx W (w.heap.size + 1) [.bool h2, .bool o2, .int .i64 a3, .bool n3, .slice d3 l3 c3, .int .i64 a4, .bool n4, .slice d4 l4 c4] ∧ Bx W (w.heap.size + 1 + 1) [.int .i64 0, .bool false, .slice none 0 0, .int .i64 0, .bool false, .slice none 0 0]) := fun W hW => ⟨hx0_0.below hx0_0.lt hW, hx0_1.below hx0_1.lt hW, hx0_2.below hx0_2.lt hW⟩
  have k0 := hx0_0.cell 0
  have k1 := hx0_0.cell 1
  have k2 := hx0_0.cell 2
  have k3 := hx0_0.cell 3
  have k4 := hx0_0.cell 4
  have k5 := hx0_0.cell 5
  have k6 := hx0_0.cell 6
  have k7 := hx0_0.cell 7
  simp only [List.getElem?_cons_zero, List.getElem?_cons_succ] at k0 k1 k2 k3 k4 k5 k6 k7
  clear hW0 hx0_0 hx0_1 hx0_2
  go_enter Tryz.func73, Tryz.ntmps73
  go_upto_region 1 with fail
  rw [HW0.out]
  go_cut [5, 42] (fun q5 q42 wx => q5 = .bool (!lowOut h1 o1 x1) ∧ q42 = undef ∧ Below W0.heap.size W0 wx)
  case first =>
    have HXS : Hid (∀ W, Below W0.heap.size W0 W → Bx W w.heap.size [.bool h1, .bool o1, .int .i64 a1, .bool n1, .slice d1 l1 c1, .int .i64 a2, .bool n2, .slice d2 l2 c2]) := fun W hW => (HX0.out W hW).1
    cases h1
    · go_wp2_with fail
      go_meet
      exact ⟨rfl, rfl, Below.refl _ _⟩
    · have TS : Hid (∀ W, Below W0.heap.size W0 W → Calls Tryz.prog 124 #[.agg #[.int .i64 a1, .bool n1, .slice d1 l1 c1, .int .i64 a2, .bool n2, .slice d2 l2 c2]] W (fun e w' => e = .returned (.int .i64 (ordI x1 0)) ∧ Below W.heap.size W w')) := fun W hW => l2Sign_any _ x1 y1 W (qn_mk ((H1.out.below HB0.out).below hW) ((H2.out.below HB0.out).below hW))
      have HO : Hid ((!lowOut true o1 x1) = (decide (ordI x1 0 < 0) || (decide (ordI x1 0 = 0) && !o1))) := low_ord o1 x1
      have h3 := ordI_three x1 0
      obtain ⟨r, hr⟩ : ∃ r, ordI x1 0 = r := ⟨_, rfl⟩
      rw [hr] at h3 HO TS
      clear hr
      rcases h3 with rfl | rfl | rfl
      all_goals
        go_wp2_with fail
        refine (TS.out _ (Below.refl _ _)).mono ?_
        rintro e wx ⟨rfl, hbx⟩
        have HBX : Hid (Below W0.heap.size W0 wx) := hbx
        have hxq := HXS.out wx hbx
        have q0 := hxq.cell 0
        have q1 := hxq.cell 1
        have q2 := hxq.cell 2
        have q3 := hxq.cell 3
        have q4 := hxq.cell 4
        have q5 := hxq.cell 5
        have q6 := hxq.cell 6
        have q7 := hxq.cell 7
        simp only [List.getElem?_cons_zero, List.getElem?_cons_succ] at q0 q1 q2 q3 q4 q5 q6 q7
        clear hbx hxq
        go_wp2_with fail
        try (refine (TS.out _ HBX.out).mono ?_; rintro e wy ⟨rfl, hby⟩; have HBY : Hid (Below W0.heap.size W0 wy) := HBX.out.trans (hby.mono HBX.out.size); have hxq := HXS.out wy HBY.out; have s0 := hxq.cell 0; have s1 := hxq.cell 1; have s2 := hxq.cell 2; have s3 := hxq.cell 3; have s4 := hxq.cell 4; have s5 := hxq.cell 5; have s6 := hxq.cell 6; have s7 := hxq.cell 7; simp only [List.getElem?_cons_zero, List.getElem?_cons_succ] at s0 s1 s2 s3 s4 s5 s6 s7; clear hby hxq; go_wp2_with fail)
        go_meet
        first
          | exact ⟨by rw [HO.out]; rfl, rfl, HBY.out⟩
          | exact ⟨by rw [HO.out]; rfl, rfl, HBX.out⟩
          | exact ⟨by rw [HO.out]; simp, rfl, HBY.out⟩
  case rest =>
    obtain ⟨rfl, rfl, hbc⟩ := hcut
    obtain ⟨wa, rfl⟩ : ∃ wa, wa = wc := ⟨_, rfl⟩
    have HA1 : Hid (Below W0.heap.size W0 wa) := hbc
    have HE1 : Hid (Below w.heap.size w wa) := HB0.out.trans (hbc.mono HB0.out.size)
    clear hbc k0 k1 k2 k3 k4 k5 k6 k7
    have hxb := (HX0.out wa HA1.out).2.1
    have k0 := hxb.cell 0
    have k1 := hxb.cell 1
    have k2 := hxb.cell 2
    have k3 := hxb.cell 3
    have k4 := hxb.cell 4
    have k5 := hxb.cell 5
    have k6 := hxb.cell 6
    have k7 := hxb.cell 7
    simp only [List.getElem?_cons_zero, List.getElem?_cons_succ] at k0 k1 k2 k3 k4 k5 k6 k7
    clear hxb
    go_upto_region 2 with fail
    go_cut [6] (fun q6 wx => q6 = .bool (!highOut h2 o2 x2) ∧ Below wa.heap.size wa wx)
    case first =>
      have HXS : Hid (∀ W, Below wa.heap.size wa W → Bx W (w.heap.size + 1) [.bool h2, .bool o2, .int .i64 a3, .bool n3, .slice d3 l3 c3, .int .i64 a4, .bool n4, .slice d4 l4 c4]) := fun W hW => (HX0.out W (HA1.out.trans (hW.mono HA1.out.size))).2.1
      cases h2
      · go_wp2_with fail
        go_meet
        exact ⟨rfl, Below.refl _ _⟩
      · have TS : Hid (∀ W, Below wa.heap.size wa W → Calls Tryz.prog 124 #[.agg #[.int .i64 a3, .bool n3, .slice d3 l3 c3, .int .i64 a4, .bool n4, .slice d4 l4 c4]] W (fun e w' => e = .returned (.int .i64 (ordI x2 0)) ∧ Below W.heap.size W w')) := fun W hW => l2Sign_any _ x2 y2 W (qn_mk ((H3.out.below HE1.out).below hW) ((H4.out.below HE1.out).below hW))
        have HO : Hid ((!highOut true o2 x2) = (decide (0 < ordI x2 0) || (decide (ordI x2 0 = 0) && !o2))) := high_ord o2 x2
        have h3 := ordI_three x2 0
        obtain ⟨r, hr⟩ : ∃ r, ordI x2 0 = r := ⟨_, rfl⟩
        rw [hr] at h3 HO TS
        clear hr
        rcases h3 with rfl | rfl | rfl
        all_goals
          go_wp2_with fail
          refine (TS.out _ (Below.refl _ _)).mono ?_
          rintro e wx ⟨rfl, hbx⟩
          have HBX : Hid (Below wa.heap.size wa wx) := hbx
          have hxq := HXS.out wx hbx
          have q0 := hxq.cell 0
          have q1 := hxq.cell 1
          have q2 := hxq.cell 2
          have q3 := hxq.cell 3
          have q4 := hxq.cell 4
          have q5 := hxq.cell 5
          have q6 := hxq.cell 6
          have q7 := hxq.cell 7
          simp only [List.getElem?_cons_zero, List.getElem?_cons_succ] at q0 q1 q2 q3 q4 q5 q6 q7
          clear hbx hxq
          go_wp2_with fail
          try (refine (TS.out _ HBX.out).mono ?_; rintro e wy ⟨rfl, hby⟩; have HBY : Hid (Below wa.heap.size wa wy) := HBX.out.trans (hby.mono HBX.out.size); have hxq := HXS.out wy HBY.out; have s0 := hxq.cell 0; have s1 := hxq.cell 1; have s2 := hxq.cell 2; have s3 := hxq.cell 3; have s4 := hxq.cell 4; have s5 := hxq.cell 5; have s6 := hxq.cell 6; have s7 := hxq.cell 7; simp only [List.getElem?_cons_zero, List.getElem?_cons_succ] at s0 s1 s2 s3 s4 s5 s6 s7; clear hby hxq; go_wp2_with fail)
          go_meet
          first
            | exact ⟨by rw [HO.out]; rfl, HBY.out⟩
            | exact ⟨by rw [HO.out]; rfl, HBX.out⟩
            | exact ⟨by rw [HO.out]; simp, HBY.out⟩
    case rest =>
      obtain ⟨rfl, hbc⟩ := hcut
      obtain ⟨wb, rfl⟩ : ∃ wb, wb = wc := ⟨_, rfl⟩
      have HA2 : Hid (Below W0.heap.size W0 wb) := HA1.out.trans (hbc.mono HA1.out.size)
      have HE2 : Hid (Below w.heap.size w wb) := HB0.out.trans (HA2.out.mono HB0.out.size)
      clear hbc k0 k1 k2 k3 k4 k5 k6 k7
      have hxb := HX0.out wb HA2.out
      have hk0 := hxb.1
      have hk1 := hxb.2.1
      have k0 := hk0.cell 0
      have k1 := hk0.cell 1
      have k2 := hk0.cell 2
      have k3 := hk0.cell 3
      have k4 := hk0.cell 4
      have k5 := hk0.cell 5
      have k6 := hk0.cell 6
      have k7 := hk0.cell 7
      simp only [List.getElem?_cons_zero, List.getElem?_cons_succ] at k0 k1 k2 k3 k4 k5 k6 k7
      have j0 := hk1.cell 0
      have j1 := hk1.cell 1
      have j2 := hk1.cell 2
      have j3 := hk1.cell 3
      have j4 := hk1.cell 4
      have j5 := hk1.cell 5
      have j6 := hk1.cell 6
      have j7 := hk1.cell 7
      simp only [List.getElem?_cons_zero, List.getElem?_cons_succ] at j0 j1 j2 j3 j4 j5 j6 j7
      clear hxb hk0 hk1
      cases hlo : lowOut h1 o1 x1
      · cases hho : highOut h2 o2 x2
        · have HBE : Hid (Best h1 o1 x1 y1 h2 o2 x2 y2 0 1) := by
            show Best h1 o1 x1 y1 h2 o2 x2 y2 0 1
            unfold Best
            rw [if_neg (by rw [hlo]; decide), if_neg (by rw [hho]; decide)]
            exact ⟨rfl, rfl⟩
          clear hlo hho
          go_wp2_with fail
          refine (l2IntZ_any _).mono ?_
          rintro e w3 ⟨z, rfl, hz, hb3⟩
          obtain ⟨a5, n5, d5, l5, c5, a6, n6, d6, l6, c6, rfl, y1z, y2z⟩ := hz
          have HR1 := hidG y1z
          have HR2 := hidG y2z
          have HA3 : Hid (Below W0.heap.size W0 w3) := HA2.out.trans (hb3.mono HA2.out.size)
          have hbr := (HX0.out w3 HA3.out).2.2
          clear hb3 y1z y2z k0 j0 k1 j1 k2 j2 k3 j3 k4 j4 k5 j5 k6 j6 k7 j7
          have q0 := hbr.cell 0
          have q1 := hbr.cell 1
          have q2 := hbr.cell 2
          have q3 := hbr.cell 3
          have q4 := hbr.cell 4
          have q5 := hbr.cell 5
          simp only [List.getElem?_cons_zero, List.getElem?_cons_succ] at q0 q1 q2 q3 q4 q5
          have qf0 := hbr.frozen 0
          have qf1 := hbr.frozen 1
          have qf2 := hbr.frozen 2
          have qf3 := hbr.frozen 3
          have qf4 := hbr.frozen 4
          have qf5 := hbr.frozen 5
          clear hbr
          go_wp2
          have hbr := (HX0.out w3 HA3.out).2.2
          have hnR : NoInt w3 (w.heap.size + 1 + 1) := noInt_of hbr (by simp)
          have HK := keepsC6 w3 (w.heap.size + 1 + 1) (.int .i64 a5) (.bool n5) (.slice d5 l5 c5) (.int .i64 a6) (.bool n6) (.slice d6 l6 c6)
          have hD1 := (HR1.out).keeps hnR hnR HK
          have hD2 := (HR2.out).keeps hnR hnR HK
          have hB9 : Below w.heap.size w ((((((w3.setCell ⟨w.heap.size + 1 + 1, 0, none⟩ (.int .i64 a5)).setCell ⟨w.heap.size + 1 + 1, 1, none⟩ (.bool n5)).setCell ⟨w.heap.size + 1 + 1, 2, none⟩ (.slice d5 l5 c5)).setCell ⟨w.heap.size + 1 + 1, 3, none⟩ (.int .i64 a6)).setCell ⟨w.heap.size + 1 + 1, 4, none⟩ (.bool n6)).setCell ⟨w.heap.size + 1 + 1, 5, none⟩ (.slice d6 l6 c6)) := (((((((HB0.out.trans (HA3.out.mono HB0.out.size)).setCell (p := ⟨w.heap.size + 1 + 1, 0, none⟩) (by dsimp only; omega) (.int .i64 a5)).setCell (p := ⟨w.heap.size + 1 + 1, 1, none⟩) (by dsimp only; omega) (.bool n5)).setCell (p := ⟨w.heap.size + 1 + 1, 2, none⟩) (by dsimp only; omega) (.slice d5 l5 c5)).setCell (p := ⟨w.heap.size + 1 + 1, 3, none⟩) (by dsimp only; omega) (.int .i64 a6)).setCell (p := ⟨w.heap.size + 1 + 1, 4, none⟩) (by dsimp only; omega) (.bool n6)).setCell (p := ⟨w.heap.size + 1 + 1, 5, none⟩) (by dsimp only; omega) (.slice d6 l6 c6))
          have hZ9 : Bx ((((((w3.setCell ⟨w.heap.size + 1 + 1, 0, none⟩ (.int .i64 a5)).setCell ⟨w.heap.size + 1 + 1, 1, none⟩ (.bool n5)).setCell ⟨w.heap.size + 1 + 1, 2, none⟩ (.slice d5 l5 c5)).setCell ⟨w.heap.size + 1 + 1, 3, none⟩ (.int .i64 a6)).setCell ⟨w.heap.size + 1 + 1, 4, none⟩ (.bool n6)).setCell ⟨w.heap.size + 1 + 1, 5, none⟩ (.slice d6 l6 c6)) (w.heap.size + 1 + 1) [.int .i64 a5, .bool n5, .slice d5 l5 c5, .int .i64 a6, .bool n6, .slice d6 l6 c6] := ((((((hbr.set 0 (.int .i64 a5)).set 1 (.bool n5)).set 2 (.slice d5 l5 c5)).set 3 (.int .i64 a6)).set 4 (.bool n6)).set 5 (.slice d6 l6 c6))
          generalize (((((w3.setCell ⟨w.heap.size + 1 + 1, 0, none⟩ (.int .i64 a5)).setCell ⟨w.heap.size + 1 + 1, 1, none⟩ (.bool n5)).setCell ⟨w.heap.size + 1 + 1, 2, none⟩ (.slice d5 l5 c5)).setCell ⟨w.heap.size + 1 + 1, 3, none⟩ (.int .i64 a6)).setCell ⟨w.heap.size + 1 + 1, 4, none⟩ (.bool n6)).setCell ⟨w.heap.size + 1 + 1, 5, none⟩ (.slice d6 l6 c6) = W9 at *
          have v0 := hZ9.cell 0
          have v1 := hZ9.cell 1
          have v2 := hZ9.cell 2
          have v3 := hZ9.cell 3
          have v4 := hZ9.cell 4
          have v5 := hZ9.cell 5
          simp only [List.getElem?_cons_zero, List.getElem?_cons_succ] at v0 v1 v2 v3 v4 v5
          refine bodyPost_ret (v := .agg #[.int .i64 a5, .bool n5, .slice d5 l5 c5, .int .i64 a6, .bool n6, .slice d6 l6 c6]) ?_ rfl ⟨_, _, _, rfl, qn_mk hD1 hD2, HBE.out, hB9⟩
          simp [results, Tryz.results73, go_sem, v0, v1, v2, v3, v4, v5]
        · have hml := HT.out.mirror.low (by rw [← high_low]; exact hho)
          have hh2 := hml.1
          have HE := hidG hml.2
          have HBE : Hid (∀ p q, Sim o2 (-x2) y2 h1 o1 (-x1) y1 p q → Best h1 o1 x1 y1 h2 o2 x2 y2 (-p) q) := fun p q hs => by
            unfold Best
            rw [if_neg (by rw [hlo]; decide), if_pos hho]
            exact ⟨p, rfl, hs⟩
          subst hh2
          have TA : Hid (∀ W, Below wb.heap.size wb W → Calls Tryz.prog 126 #[.agg #[.int .i64 a3, .bool n3, .slice d3 l3 c3, .int .i64 a4, .bool n4, .slice d4 l4 c4]] W (fun e w' => ∃ z', e = .returned z' ∧ IsQN 0 w' z' (-x2) y2 ∧ Below W.heap.size W w')) := fun W hW => l2Minus_any _ x2 y2 W (qn_mk ((H3.out.below HE2.out).below hW) ((H4.out.below HE2.out).below hW))
          have TB : Hid (∀ W, Below wb.heap.size wb W → Calls Tryz.prog 126 #[.agg #[.int .i64 a1, .bool n1, .slice d1 l1 c1, .int .i64 a2, .bool n2, .slice d2 l2 c2]] W (fun e w' => ∃ z', e = .returned z' ∧ IsQN 0 w' z' (-x1) y1 ∧ Below W.heap.size W w')) := fun W hW => l2Minus_any _ x1 y1 W (qn_mk ((H1.out.below HE2.out).below hW) ((H2.out.below HE2.out).below hW))
          have TC : Hid (∀ W za zb, Below wb.heap.size wb W → IsES W za true o2 (-x2) y2 → IsES W zb h1 o1 (-x1) y1 → Calls Tryz.prog 125 #[za, zb] W (fun e w' => ∃ z p q, e = .returned z ∧ IsQN 0 w' z p q ∧ Sim o2 (-x2) y2 h1 o1 (-x1) y1 p q ∧ Below W.heap.size W w')) := fun W za zb hW ha hb =>
            l2Simple_any _ o2 (-x2) y2 h1 o1 (-x1) y1 za zb W (Nat.le_refl _) ha hb HE.out ⟨by rw [Int.natAbs_neg]; exact HLB.out.2.2.1, HLB.out.2.2.2, by rw [Int.natAbs_neg]; exact HLB.out.1, HLB.out.2.1⟩
          have hz0 : w.heap.size + 2 < wb.heap.size := by have := HA2.out.size; have := HS0.out; omega
          clear hlo hho hml
          go_upto_region 6 with fail
          go_cut [7] (fun q7 wx => ∃ (gb : Nat) (a7 : Int) (n7 : Bool) (d7 : Option Addr) (l7 c7 : Nat) (a8 : Int) (n8 : Bool) (d8 : Option Addr) (l8 c8 : Nat) (p q : Int), q7 = .pointer (some ⟨gb, 0, none⟩) ∧ wb.heap.size ≤ gb ∧ Bx wx gb [.int .i64 a7, .bool n7, .slice d7 l7 c7, .int .i64 a8, .bool n8, .slice d8 l8 c8] ∧ NumZ 0 wx (.agg #[.int .i64 a7, .bool n7, .slice d7 l7 c7]) (p) 1000 ∧ NumZ 0 wx (.agg #[.int .i64 a8, .bool n8, .slice d8 l8 c8]) (q) 1000 ∧ Sim o2 (-x2) y2 h1 o1 (-x1) y1 p q ∧ Below wb.heap.size wb wx)
          case first =>
            go_wp2_with fail
            go_region_held3 (fun W => W.cell? ⟨w.heap.size, 0, none⟩ = some (.bool h1) ∧ W.cell? ⟨w.heap.size, 1, none⟩ = some (.bool o1) ∧ W.cell? ⟨w.heap.size, 2, none⟩ = some (.int .i64 a1) ∧ W.cell? ⟨w.heap.size, 3, none⟩ = some (.bool n1) ∧ W.cell? ⟨w.heap.size, 4, none⟩ = some (.slice d1 l1 c1) ∧ W.cell? ⟨w.heap.size, 5, none⟩ = some (.int .i64 a2) ∧ W.cell? ⟨w.heap.size, 6, none⟩ = some (.bool n2) ∧ W.cell? ⟨w.heap.size, 7, none⟩ = some (.slice d2 l2 c2) ∧ W.cell? ⟨w.heap.size + 1, 0, none⟩ = some (.bool true) ∧ W.cell? ⟨w.heap.size + 1, 1, none⟩ = some (.bool o2) ∧ W.cell? ⟨w.heap.size + 1, 2, none⟩ = some (.int .i64 a3) ∧ W.cell? ⟨w.heap.size + 1, 3, none⟩ = some (.bool n3) ∧ W.cell? ⟨w.heap.size + 1, 4, none⟩ = some (.slice d3 l3 c3) ∧ W.cell? ⟨w.heap.size + 1, 5, none⟩ = some (.int .i64 a4) ∧ W.cell? ⟨w.heap.size + 1, 6, none⟩ = some (.bool n4) ∧ W.cell? ⟨w.heap.size + 1, 7, none⟩ = some (.slice d4 l4 c4)) (first | with_reducible assumption | with_reducible exact putS_16_6 (by with_reducible assumption) _ (by dsimp only; omega) _ _ _ _ _ _ | go_keep) (first
              | (go_at_call_of 126 (Value.slice d3 l3 c3)
                 refine (TA.out _ ?_).mono ?_
                 · repeat' (first | exact Below.refl _ _ | refine Below.drew ?_ | refine Below.alloc ?_ ?_ _ | assumption | (simp; done) | (simp; omega))
                 rintro e wt1 ⟨u1, rfl, hu, hb⟩
                 obtain ⟨a9, n9, d9, l9, c9, a10, n10, d10, l10, c10, rfl, y1z, y2z⟩ := hu
                 have HU1 : Hid (IsES wt1 (.agg #[.bool true, .bool o2, .int .i64 a9, .bool n9, .slice d9 l9 c9, .int .i64 a10, .bool n10, .slice d10 l10 c10]) true o2 (-x2) y2) := ⟨_, _, _, _, _, _, _, _, _, _, rfl, y1z, y2z⟩
                 have HQ1 : Hid (Below wb.heap.size wb wt1) := by
                   show Below wb.heap.size wb wt1
                   refine Below.trans ?_ (hb.mono ?_)
                   · repeat' (first | exact Below.refl _ _ | refine Below.drew ?_ | refine Below.alloc ?_ ?_ _ | assumption | (simp; done) | (simp; omega))
                   · simp
                 have HK1 := hidG (fun (gg : Nat) (l : List Value) (hx : Bx _ gg l) => hx.below hx.lt hb)
                 have hz1 := HQ1.out.size
                 try (have hnb : Bx wt1 wb.heap.size [.int .i64 0, .bool false, .slice none 0 0, .int .i64 0, .bool false, .slice none 0 0] := by with_reducible exact HK1.out _ _ (bx_newD _ _ _))
                 try have HNB := hidG hnb
                 try clear hnb
                 have hxa := HX0.out wt1 (HA2.out.trans (HQ1.out.mono HA2.out.size))
                 have hSwt1 : wt1.cell? ⟨w.heap.size, 0, none⟩ = some (.bool h1) ∧ wt1.cell? ⟨w.heap.size, 1, none⟩ = some (.bool o1) ∧ wt1.cell? ⟨w.heap.size, 2, none⟩ = some (.int .i64 a1) ∧ wt1.cell? ⟨w.heap.size, 3, none⟩ = some (.bool n1) ∧ wt1.cell? ⟨w.heap.size, 4, none⟩ = some (.slice d1 l1 c1) ∧ wt1.cell? ⟨w.heap.size, 5, none⟩ = some (.int .i64 a2) ∧ wt1.cell? ⟨w.heap.size, 6, none⟩ = some (.bool n2) ∧ wt1.cell? ⟨w.heap.size, 7, none⟩ = some (.slice d2 l2 c2) ∧ wt1.cell? ⟨w.heap.size + 1, 0, none⟩ = some (.bool true) ∧ wt1.cell? ⟨w.heap.size + 1, 1, none⟩ = some (.bool o2) ∧ wt1.cell? ⟨w.heap.size + 1, 2, none⟩ = some (.int .i64 a3) ∧ wt1.cell? ⟨w.heap.size + 1, 3, none⟩ = some (.bool n3) ∧ wt1.cell? ⟨w.heap.size + 1, 4, none⟩ = some (.slice d3 l3 c3) ∧ wt1.cell? ⟨w.heap.size + 1, 5, none⟩ = some (.int .i64 a4) ∧ wt1.cell? ⟨w.heap.size + 1, 6, none⟩ = some (.bool n4) ∧ wt1.cell? ⟨w.heap.size + 1, 7, none⟩ = some (.slice d4 l4 c4) := ⟨(hxa.1).cell 0, (hxa.1).cell 1, (hxa.1).cell 2, (hxa.1).cell 3, (hxa.1).cell 4, (hxa.1).cell 5, (hxa.1).cell 6, (hxa.1).cell 7, (hxa.2.1).cell 0, (hxa.2.1).cell 1, (hxa.2.1).cell 2, (hxa.2.1).cell 3, (hxa.2.1).cell 4, (hxa.2.1).cell 5, (hxa.2.1).cell 6, (hxa.2.1).cell 7⟩
                 clear hxa
                 clear y1z y2z hb)
              | (go_at_call_of 126 (Value.slice d1 l1 c1)
                 refine (TB.out _ ?_).mono ?_
                 · repeat' (first | exact HQ1.out | refine Below.drew ?_ | refine Below.alloc ?_ ?_ _ | assumption | (simp; done) | (simp; omega))
                 rintro e wt2 ⟨u2, rfl, hu, hb⟩
                 obtain ⟨a11, n11, d11, l11, c11, a12, n12, d12, l12, c12, rfl, y1z, y2z⟩ := hu
                 have HU2 : Hid (IsES wt2 (.agg #[.bool h1, .bool o1, .int .i64 a11, .bool n11, .slice d11 l11 c11, .int .i64 a12, .bool n12, .slice d12 l12 c12]) h1 o1 (-x1) y1) := ⟨_, _, _, _, _, _, _, _, _, _, rfl, y1z, y2z⟩
                 have HV1 : Hid (IsES wt2 (.agg #[.bool true, .bool o2, .int .i64 a9, .bool n9, .slice d9 l9 c9, .int .i64 a10, .bool n10, .slice d10 l10 c10]) true o2 (-x2) y2) := by
                   show IsES wt2 _ true o2 (-x2) y2
                   first | exact HU1.out.below hb | exact (HU1.out.below (below_alloc _ _)).below hb
                 have HQ2 : Hid (Below wb.heap.size wb wt2) := by
                   show Below wb.heap.size wb wt2
                   refine Below.trans ?_ (hb.mono ?_)
                   · repeat' (first | exact HQ1.out | refine Below.drew ?_ | refine Below.alloc ?_ ?_ _ | assumption | (simp; done) | (simp; omega))
                   · first | exact hz1 | (simp; omega)
                 have HK2 := hidG (fun (gg : Nat) (l : List Value) (hx : Bx _ gg l) => hx.below hx.lt hb)
                 have hz2 := HQ2.out.size
                 try (have hnb : Bx wt2 wb.heap.size [.int .i64 0, .bool false, .slice none 0 0, .int .i64 0, .bool false, .slice none 0 0] := by with_reducible exact HK2.out _ _ HNB.out)
                 try (have hnb : Bx wt2 wt1.heap.size [.int .i64 0, .bool false, .slice none 0 0, .int .i64 0, .bool false, .slice none 0 0] := by with_reducible exact HK2.out _ _ (bx_new _ _ _))
                 try have HNC := hidG hnb
                 try clear hnb
                 have hxa := HX0.out wt2 (HA2.out.trans (HQ2.out.mono HA2.out.size))
                 have hSwt2 : wt2.cell? ⟨w.heap.size, 0, none⟩ = some (.bool h1) ∧ wt2.cell? ⟨w.heap.size, 1, none⟩ = some (.bool o1) ∧ wt2.cell? ⟨w.heap.size, 2, none⟩ = some (.int .i64 a1) ∧ wt2.cell? ⟨w.heap.size, 3, none⟩ = some (.bool n1) ∧ wt2.cell? ⟨w.heap.size, 4, none⟩ = some (.slice d1 l1 c1) ∧ wt2.cell? ⟨w.heap.size, 5, none⟩ = some (.int .i64 a2) ∧ wt2.cell? ⟨w.heap.size, 6, none⟩ = some (.bool n2) ∧ wt2.cell? ⟨w.heap.size, 7, none⟩ = some (.slice d2 l2 c2) ∧ wt2.cell? ⟨w.heap.size + 1, 0, none⟩ = some (.bool true) ∧ wt2.cell? ⟨w.heap.size + 1, 1, none⟩ = some (.bool o2) ∧ wt2.cell? ⟨w.heap.size + 1, 2, none⟩ = some (.int .i64 a3) ∧ wt2.cell? ⟨w.heap.size + 1, 3, none⟩ = some (.bool n3) ∧ wt2.cell? ⟨w.heap.size + 1, 4, none⟩ = some (.slice d3 l3 c3) ∧ wt2.cell? ⟨w.heap.size + 1, 5, none⟩ = some (.int .i64 a4) ∧ wt2.cell? ⟨w.heap.size + 1, 6, none⟩ = some (.bool n4) ∧ wt2.cell? ⟨w.heap.size + 1, 7, none⟩ = some (.slice d4 l4 c4) := ⟨(hxa.1).cell 0, (hxa.1).cell 1, (hxa.1).cell 2, (hxa.1).cell 3, (hxa.1).cell 4, (hxa.1).cell 5, (hxa.1).cell 6, (hxa.1).cell 7, (hxa.2.1).cell 0, (hxa.2.1).cell 1, (hxa.2.1).cell 2, (hxa.2.1).cell 3, (hxa.2.1).cell 4, (hxa.2.1).cell 5, (hxa.2.1).cell 6, (hxa.2.1).cell 7⟩
                 clear hxa
                 clear y1z y2z hb)
              | (go_at_call 125
                 refine (TC.out _ _ _ ?_ ?_ ?_).mono ?_
                 · repeat' (first | exact HQ2.out | refine Below.drew ?_ | refine Below.alloc ?_ ?_ _ | assumption | (simp; done) | (simp; omega))
                 · first | exact HV1.out | exact HV1.out.below (below_alloc _ _)
                 · first | exact HU2.out | exact HU2.out.below (below_alloc _ _)
                 rintro e wm ⟨u3, p, q, rfl, hu, hsim, hb⟩
                 obtain ⟨a7, n7, d7, l7, c7, a8, n8, d8, l8, c8, rfl, y1z, y2z⟩ := hu
                 have HU3 := hidG y1z
                 have HU4 := hidG y2z
                 have HSI := hidG hsim
                 have HQM : Hid (Below wb.heap.size wb wm) := by
                   show Below wb.heap.size wb wm
                   refine Below.trans ?_ (hb.mono ?_)
                   · repeat' (first | exact HQ2.out | refine Below.drew ?_ | refine Below.alloc ?_ ?_ _ | assumption | (simp; done) | (simp; omega))
                   · first | exact hz2 | (simp; omega)
                 have HK3 := hidG (fun (gg : Nat) (l : List Value) (hx : Bx _ gg l) => hx.below hx.lt hb)
                 have hz3 := HQM.out.size
                 try (have hnb : Bx wm wb.heap.size [.int .i64 0, .bool false, .slice none 0 0, .int .i64 0, .bool false, .slice none 0 0] := by with_reducible exact HK3.out _ _ HNC.out)
                 try (have hnb : Bx wm wt1.heap.size [.int .i64 0, .bool false, .slice none 0 0, .int .i64 0, .bool false, .slice none 0 0] := by with_reducible exact HK3.out _ _ HNC.out)
                 try (have hnb : Bx wm wt2.heap.size [.int .i64 0, .bool false, .slice none 0 0, .int .i64 0, .bool false, .slice none 0 0] := by with_reducible exact HK3.out _ _ (bx_new _ _ _))
                 try (have e0' := hnb.cell 0; have ef0' := hnb.frozen 0; have e1' := hnb.cell 1; have ef1' := hnb.frozen 1; have e2' := hnb.cell 2; have ef2' := hnb.frozen 2; have e3' := hnb.cell 3; have ef3' := hnb.frozen 3; have e4' := hnb.cell 4; have ef4' := hnb.frozen 4; have e5' := hnb.cell 5; have ef5' := hnb.frozen 5; simp only [List.getElem?_cons_zero, List.getElem?_cons_succ] at e0' e1' e2' e3' e4' e5')
                 try have HND := hidG hnb
                 try clear hnb
                 have hxa := HX0.out wm (HA2.out.trans (HQM.out.mono HA2.out.size))
                 have hSwm : wm.cell? ⟨w.heap.size, 0, none⟩ = some (.bool h1) ∧ wm.cell? ⟨w.heap.size, 1, none⟩ = some (.bool o1) ∧ wm.cell? ⟨w.heap.size, 2, none⟩ = some (.int .i64 a1) ∧ wm.cell? ⟨w.heap.size, 3, none⟩ = some (.bool n1) ∧ wm.cell? ⟨w.heap.size, 4, none⟩ = some (.slice d1 l1 c1) ∧ wm.cell? ⟨w.heap.size, 5, none⟩ = some (.int .i64 a2) ∧ wm.cell? ⟨w.heap.size, 6, none⟩ = some (.bool n2) ∧ wm.cell? ⟨w.heap.size, 7, none⟩ = some (.slice d2 l2 c2) ∧ wm.cell? ⟨w.heap.size + 1, 0, none⟩ = some (.bool true) ∧ wm.cell? ⟨w.heap.size + 1, 1, none⟩ = some (.bool o2) ∧ wm.cell? ⟨w.heap.size + 1, 2, none⟩ = some (.int .i64 a3) ∧ wm.cell? ⟨w.heap.size + 1, 3, none⟩ = some (.bool n3) ∧ wm.cell? ⟨w.heap.size + 1, 4, none⟩ = some (.slice d3 l3 c3) ∧ wm.cell? ⟨w.heap.size + 1, 5, none⟩ = some (.int .i64 a4) ∧ wm.cell? ⟨w.heap.size + 1, 6, none⟩ = some (.bool n4) ∧ wm.cell? ⟨w.heap.size + 1, 7, none⟩ = some (.slice d4 l4 c4) := ⟨(hxa.1).cell 0, (hxa.1).cell 1, (hxa.1).cell 2, (hxa.1).cell 3, (hxa.1).cell 4, (hxa.1).cell 5, (hxa.1).cell 6, (hxa.1).cell 7, (hxa.2.1).cell 0, (hxa.2.1).cell 1, (hxa.2.1).cell 2, (hxa.2.1).cell 3, (hxa.2.1).cell 4, (hxa.2.1).cell 5, (hxa.2.1).cell 6, (hxa.2.1).cell 7⟩
                 clear hxa
                 clear y1z y2z hsim hb))
            all_goals
              go_wp2_with fail
              go_meet
              first
                | (have hnb := HND.out
                   exact ⟨_, a7, n7, d7, l7, c7, a8, n8, d8, l8, c8, p, q, rfl, (by first | exact Nat.le_refl _ | exact hz1 | exact hz2), ((((((hnb.set 0 (.int .i64 a7)).set 1 (.bool n7)).set 2 (.slice d7 l7 c7)).set 3 (.int .i64 a8)).set 4 (.bool n8)).set 5 (.slice d8 l8 c8)), HU3.out.keeps (noInt_of hnb (by simp)) (noInt_of hnb (by simp)) (keepsC6 wm _ _ _ _ _ _ _), HU4.out.keeps (noInt_of hnb (by simp)) (noInt_of hnb (by simp)) (keepsC6 wm _ _ _ _ _ _ _), HSI.out, (((((HQM.out.setCell (by dsimp only; omega) _).setCell (by dsimp only; omega) _).setCell (by dsimp only; omega) _).setCell (by dsimp only; omega) _).setCell (by dsimp only; omega) _).setCell (by dsimp only; omega) _⟩)
                | exact ⟨wm.heap.size, a7, n7, d7, l7, c7, a8, n8, d8, l8, c8, p, q, rfl, hz3, bx_new wm _ _, HU3.out.below (below_alloc _ _), HU4.out.below (below_alloc _ _), HSI.out, HQM.out.alloc HQM.out.size _⟩
          case rest =>
            obtain ⟨gb, a7, n7, d7, l7, c7, a8, n8, d8, l8, c8, p, q, rfl, hgb, hbx, y1z, y2z, hsim, hbc⟩ := hcut
            obtain ⟨wg, rfl⟩ : ∃ wg, wg = wc := ⟨_, rfl⟩
            have HR1 := hidG y1z
            have HR2 := hidG y2z
            have HSI := hidG hsim
            have HA3 : Hid (Below W0.heap.size W0 wg) := HA2.out.trans (hbc.mono HA2.out.size)
            clear y1z y2z hsim hbc k0 j0 k1 j1 k2 j2 k3 j3 k4 j4 k5 j5 k6 j6 k7 j7
            have m0 := hbx.cell 0
            have m1 := hbx.cell 1
            have m2 := hbx.cell 2
            have m3 := hbx.cell 3
            have m4 := hbx.cell 4
            have m5 := hbx.cell 5
            simp only [List.getElem?_cons_zero, List.getElem?_cons_succ] at m0 m1 m2 m3 m4 m5
            clear hbx
            go_wp2_with fail
            refine (l2Minus_any _ p q _ (qn_mk HR1.out HR2.out)).mono ?_
            rintro e w3 ⟨z, rfl, hz, hb3⟩
            obtain ⟨a5, n5, d5, l5, c5, a6, n6, d6, l6, c6, rfl, y1z, y2z⟩ := hz
            have HR3 := hidG y1z
            have HR4 := hidG y2z
            have HA4 : Hid (Below W0.heap.size W0 w3) := HA3.out.trans (hb3.mono HA3.out.size)
            have hbr := (HX0.out w3 HA4.out).2.2
            clear hb3 y1z y2z m0 m1 m2 m3 m4 m5
            have q0 := hbr.cell 0
            have q1 := hbr.cell 1
            have q2 := hbr.cell 2
            have q3 := hbr.cell 3
            have q4 := hbr.cell 4
            have q5 := hbr.cell 5
            simp only [List.getElem?_cons_zero, List.getElem?_cons_succ] at q0 q1 q2 q3 q4 q5
            have qf0 := hbr.frozen 0
            have qf1 := hbr.frozen 1
            have qf2 := hbr.frozen 2
            have qf3 := hbr.frozen 3
            have qf4 := hbr.frozen 4
            have qf5 := hbr.frozen 5
            clear hbr
            go_wp2
            have hbr := (HX0.out w3 HA4.out).2.2
            have hnR : NoInt w3 (w.heap.size + 1 + 1) := noInt_of hbr (by simp)
            have HK := keepsC6 w3 (w.heap.size + 1 + 1) (.int .i64 a5) (.bool n5) (.slice d5 l5 c5) (.int .i64 a6) (.bool n6) (.slice d6 l6 c6)
            have hD1 := (HR3.out).keeps hnR hnR HK
            have hD2 := (HR4.out).keeps hnR hnR HK
            have hB9 : Below w.heap.size w ((((((w3.setCell ⟨w.heap.size + 1 + 1, 0, none⟩ (.int .i64 a5)).setCell ⟨w.heap.size + 1 + 1, 1, none⟩ (.bool n5)).setCell ⟨w.heap.size + 1 + 1, 2, none⟩ (.slice d5 l5 c5)).setCell ⟨w.heap.size + 1 + 1, 3, none⟩ (.int .i64 a6)).setCell ⟨w.heap.size + 1 + 1, 4, none⟩ (.bool n6)).setCell ⟨w.heap.size + 1 + 1, 5, none⟩ (.slice d6 l6 c6)) := (((((((HB0.out.trans (HA4.out.mono HB0.out.size)).setCell (p := ⟨w.heap.size + 1 + 1, 0, none⟩) (by dsimp only; omega) (.int .i64 a5)).setCell (p := ⟨w.heap.size + 1 + 1, 1, none⟩) (by dsimp only; omega) (.bool n5)).setCell (p := ⟨w.heap.size + 1 + 1, 2, none⟩) (by dsimp only; omega) (.slice d5 l5 c5)).setCell (p := ⟨w.heap.size + 1 + 1, 3, none⟩) (by dsimp only; omega) (.int .i64 a6)).setCell (p := ⟨w.heap.size + 1 + 1, 4, none⟩) (by dsimp only; omega) (.bool n6)).setCell (p := ⟨w.heap.size + 1 + 1, 5, none⟩) (by dsimp only; omega) (.slice d6 l6 c6))
            have hZ9 : Bx ((((((w3.setCell ⟨w.heap.size + 1 + 1, 0, none⟩ (.int .i64 a5)).setCell ⟨w.heap.size + 1 + 1, 1, none⟩ (.bool n5)).setCell ⟨w.heap.size + 1 + 1, 2, none⟩ (.slice d5 l5 c5)).setCell ⟨w.heap.size + 1 + 1, 3, none⟩ (.int .i64 a6)).setCell ⟨w.heap.size + 1 + 1, 4, none⟩ (.bool n6)).setCell ⟨w.heap.size + 1 + 1, 5, none⟩ (.slice d6 l6 c6)) (w.heap.size + 1 + 1) [.int .i64 a5, .bool n5, .slice d5 l5 c5, .int .i64 a6, .bool n6, .slice d6 l6 c6] := ((((((hbr.set 0 (.int .i64 a5)).set 1 (.bool n5)).set 2 (.slice d5 l5 c5)).set 3 (.int .i64 a6)).set 4 (.bool n6)).set 5 (.slice d6 l6 c6))
            generalize (((((w3.setCell ⟨w.heap.size + 1 + 1, 0, none⟩ (.int .i64 a5)).setCell ⟨w.heap.size + 1 + 1, 1, none⟩ (.bool n5)).setCell ⟨w.heap.size + 1 + 1, 2, none⟩ (.slice d5 l5 c5)).setCell ⟨w.heap.size + 1 + 1, 3, none⟩ (.int .i64 a6)).setCell ⟨w.heap.size + 1 + 1, 4, none⟩ (.bool n6)).setCell ⟨w.heap.size + 1 + 1, 5, none⟩ (.slice d6 l6 c6) = W9 at *
            have v0 := hZ9.cell 0
            have v1 := hZ9.cell 1
            have v2 := hZ9.cell 2
            have v3 := hZ9.cell 3
            have v4 := hZ9.cell 4
            have v5 := hZ9.cell 5
            simp only [List.getElem?_cons_zero, List.getElem?_cons_succ] at v0 v1 v2 v3 v4 v5
            refine bodyPost_ret (v := .agg #[.int .i64 a5, .bool n5, .slice d5 l5 c5, .int .i64 a6, .bool n6, .slice d6 l6 c6]) ?_ rfl ⟨_, _, _, rfl, qn_mk hD1 hD2, HBE.out _ _ HSI.out, hB9⟩
            simp [results, Tryz.results73, go_sem, v0, v1, v2, v3, v4, v5]
      · have hml := HT.out.low hlo
        have hh1 := hml.1
        have HE := hidG hml.2
        have HBE : Hid (∀ p q, Sim o1 x1 y1 h2 o2 x2 y2 p q → Best h1 o1 x1 y1 h2 o2 x2 y2 p q) := fun p q hs => by
          unfold Best
          rw [if_pos hlo]
          exact hs
        subst hh1
        clear hlo hml
        go_wp2_with fail
        refine (l2Simple_any _ o1 x1 y1 h2 o2 x2 y2 _ _ wb (Nat.le_refl _) ⟨_, _, _, _, _, _, _, _, _, _, rfl, H1.out.below HE2.out, H2.out.below HE2.out⟩ ⟨_, _, _, _, _, _, _, _, _, _, rfl, H3.out.below HE2.out, H4.out.below HE2.out⟩ HE.out HLB.out).mono ?_
        rintro e w3 ⟨z, p, q, rfl, hq, hsim, hb3⟩
        obtain ⟨a5, n5, d5, l5, c5, a6, n6, d6, l6, c6, rfl, y1z, y2z⟩ := hq
        have HR1 := hidG y1z
        have HR2 := hidG y2z
        have HSI := hidG hsim
        have HA3 : Hid (Below W0.heap.size W0 w3) := HA2.out.trans (hb3.mono HA2.out.size)
        have hbr := (HX0.out w3 HA3.out).2.2
        clear hb3 y1z y2z hsim k0 j0 k1 j1 k2 j2 k3 j3 k4 j4 k5 j5 k6 j6 k7 j7
        have q0 := hbr.cell 0
        have q1 := hbr.cell 1
        have q2 := hbr.cell 2
        have q3 := hbr.cell 3
        have q4 := hbr.cell 4
        have q5 := hbr.cell 5
        simp only [List.getElem?_cons_zero, List.getElem?_cons_succ] at q0 q1 q2 q3 q4 q5
        have qf0 := hbr.frozen 0
        have qf1 := hbr.frozen 1
        have qf2 := hbr.frozen 2
        have qf3 := hbr.frozen 3
        have qf4 := hbr.frozen 4
        have qf5 := hbr.frozen 5
        clear hbr
        go_wp2
        have hbr := (HX0.out w3 HA3.out).2.2
        have hnR : NoInt w3 (w.heap.size + 1 + 1) := noInt_of hbr (by simp)
        have HK := keepsC6 w3 (w.heap.size + 1 + 1) (.int .i64 a5) (.bool n5) (.slice d5 l5 c5) (.int .i64 a6) (.bool n6) (.slice d6 l6 c6)
        have hD1 := (HR1.out).keeps hnR hnR HK
        have hD2 := (HR2.out).keeps hnR hnR HK
        have hB9 : Below w.heap.size w ((((((w3.setCell ⟨w.heap.size + 1 + 1, 0, none⟩ (.int .i64 a5)).setCell ⟨w.heap.size + 1 + 1, 1, none⟩ (.bool n5)).setCell ⟨w.heap.size + 1 + 1, 2, none⟩ (.slice d5 l5 c5)).setCell ⟨w.heap.size + 1 + 1, 3, none⟩ (.int .i64 a6)).setCell ⟨w.heap.size + 1 + 1, 4, none⟩ (.bool n6)).setCell ⟨w.heap.size + 1 + 1, 5, none⟩ (.slice d6 l6 c6)) := (((((((HB0.out.trans (HA3.out.mono HB0.out.size)).setCell (p := ⟨w.heap.size + 1 + 1, 0, none⟩) (by dsimp only; omega) (.int .i64 a5)).setCell (p := ⟨w.heap.size + 1 + 1, 1, none⟩) (by dsimp only; omega) (.bool n5)).setCell (p := ⟨w.heap.size + 1 + 1, 2, none⟩) (by dsimp only; omega) (.slice d5 l5 c5)).setCell (p := ⟨w.heap.size + 1 + 1, 3, none⟩) (by dsimp only; omega) (.int .i64 a6)).setCell (p := ⟨w.heap.size + 1 + 1, 4, none⟩) (by dsimp only; omega) (.bool n6)).setCell (p := ⟨w.heap.size + 1 + 1, 5, none⟩) (by dsimp only; omega) (.slice d6 l6 c6))
        have hZ9 : Bx ((((((w3.setCell ⟨w.heap.size + 1 + 1, 0, none⟩ (.int .i64 a5)).setCell ⟨w.heap.size + 1 + 1, 1, none⟩ (.bool n5)).setCell ⟨w.heap.size + 1 + 1, 2, none⟩ (.slice d5 l5 c5)).setCell ⟨w.heap.size + 1 + 1, 3, none⟩ (.int .i64 a6)).setCell ⟨w.heap.size + 1 + 1, 4, none⟩ (.bool n6)).setCell ⟨w.heap.size + 1 + 1, 5, none⟩ (.slice d6 l6 c6)) (w.heap.size + 1 + 1) [.int .i64 a5, .bool n5, .slice d5 l5 c5, .int .i64 a6, .bool n6, .slice d6 l6 c6] := ((((((hbr.set 0 (.int .i64 a5)).set 1 (.bool n5)).set 2 (.slice d5 l5 c5)).set 3 (.int .i64 a6)).set 4 (.bool n6)).set 5 (.slice d6 l6 c6))
        generalize (((((w3.setCell ⟨w.heap.size + 1 + 1, 0, none⟩ (.int .i64 a5)).setCell ⟨w.heap.size + 1 + 1, 1, none⟩ (.bool n5)).setCell ⟨w.heap.size + 1 + 1, 2, none⟩ (.slice d5 l5 c5)).setCell ⟨w.heap.size + 1 + 1, 3, none⟩ (.int .i64 a6)).setCell ⟨w.heap.size + 1 + 1, 4, none⟩ (.bool n6)).setCell ⟨w.heap.size + 1 + 1, 5, none⟩ (.slice d6 l6 c6) = W9 at *
        have v0 := hZ9.cell 0
        have v1 := hZ9.cell 1
        have v2 := hZ9.cell 2
        have v3 := hZ9.cell 3
        have v4 := hZ9.cell 4
        have v5 := hZ9.cell 5
        simp only [List.getElem?_cons_zero, List.getElem?_cons_succ] at v0 v1 v2 v3 v4 v5
        refine bodyPost_ret (v := .agg #[.int .i64 a5, .bool n5, .slice d5 l5 c5, .int .i64 a6, .bool n6, .slice d6 l6 c6]) ?_ rfl ⟨_, _, _, rfl, qn_mk hD1 hD2, HBE.out _ _ HSI.out, hB9⟩
        simp [results, Tryz.results73, go_sem, v0, v1, v2, v3, v4, v5]
def OkE (h : Bool) (t : ByteArray) (k : Option Nat) : Prop := h = true → ∃ x y, RatV t k x y
theorem okE_ends {h : Bool} {t : ByteArray} {k : Option Nat} (a : OkE h t k) : ∃ x y x' y', (h = true → RatV t k x y) ∧ (h = false → x = 0 ∧ y = 1) ∧ RdE h t k x' y' ∧ (h = true → x = x' ∧ y = y') ∧ x.natAbs < lb 281 ∧ y.natAbs < lb 281 ∧ (h = true → 0 < y ∧ Int.gcd x y = 1) := by
 cases h with
 | false =>
  have h1 : (0 : Int).natAbs < lb 281 := Nat.lt_of_lt_of_le (by decide) (Nat.le_of_lt (lb_one 281 (by decide)))
  exact ⟨0, 1, 0, 0, fun e => (by cases e), fun _ => ⟨rfl, rfl⟩, ⟨rfl, rfl⟩, fun e => (by cases e), h1, lb_one 281 (by decide), fun e => (by cases e)⟩
 | true =>
  obtain ⟨x, y, hV⟩ := a rfl
  have hr : RdE true t k x y := hV
  have hl := hr.lt
  exact ⟨x, y, x, y, fun _ => hV, fun e => (by cases e), hr, fun _ => ⟨rfl, rfl⟩, hl.1, hl.2.1, hl.2.2⟩
theorem none_irrel {h1 o1 : Bool} {x1 y1 : Int} {h2 o2 : Bool} {x2 y2 x1' y1' x2' y2' : Int} (e1 : h1 = true → x1 = x1' ∧ y1 = y1') (e2 : h2 = true → x2 = x2' ∧ y2 = y2') : NoneB h1 o1 x1 y1 h2 o2 x2 y2 = NoneB h1 o1 x1' y1' h2 o2 x2' y2' := by
 unfold NoneB
 cases h1 with
 | false => rfl
 | true =>
  cases h2 with
  | false => rfl
  | true => rw [(e1 rfl).1, (e1 rfl).2, (e2 rfl).1, (e2 rfl).2]
set_option maxRecDepth 100000 in
set_option maxHeartbeats 4000000 in
theorem specSimplest_any (h1 o1 : Bool) (t1 : ByteArray) (h2 o2 : Bool) (t2 : ByteArray) (w : World) (ht1 : t1.size ≤ maxLen) (ht2 : t2.size ≤ maxLen) :
  Calls Tryz.prog 28 #[.agg #[.bool h1, .bool o1, .string t1], .agg #[.bool h2, .bool o2, .string t2]] w fun e w' => ∃ u, e = .returned (.string u) ∧ ResS h1 o1 t1 h2 o2 t2 u ∧ Below w.heap.size w w' := by
 obtain ⟨q1_, hk1⟩ := isCut_ex t1
 obtain ⟨q2_, hk2⟩ := isCut_ex t2
 have HK1 := hidG hk1
 have HK2 := hidG hk2
 clear hk1 hk2
 obtain ⟨W0, hW0⟩ : ∃ W0, (w.alloc (.cells #[.bool h1, .bool o1, .string t1] 31)).alloc (.cells #[.bool h2, .bool o2, .string t2] 31) = W0 := ⟨_, rfl⟩
 have HW0 := hidG hW0
 have HB0 : Hid (Below w.heap.size w W0) := by show Below w.heap.size w W0; rw [← hW0]; exact below_al (below_alloc _ _) _
 have HS0 : Hid (W0.heap.size = w.heap.size + 2) := by show W0.heap.size = _; rw [← hW0]; simp
 have hx0_0 : Bx W0 (w.heap.size) [.bool h1, .bool o1, .string t1] := by
  rw [← hW0]
  exact (bx_new w _ _).alloc _
 have hx0_1 : Bx W0 (w.heap.size + 1) [.bool h2, .bool o2, .string t2] := by
  rw [← hW0]
  have h := bx_new (w.alloc (.cells #[.bool h1, .bool o1, .string t1] 31)) [.bool h2, .bool o2, .string t2] 31
  rw [World.size_alloc] at h
  exact h
 have HX0 : Hid (∀ W, Below W0.heap.size W0 W → Bx W (w.heap.size) [.bool h1, .bool o1, .string t1] ∧ Bx W (w.heap.size + 1) [.bool h2, .bool o2, .string t2]) := fun W hW => ⟨hx0_0.below hx0_0.lt hW, hx0_1.below hx0_1.lt hW⟩
 have k0 := hx0_0.cell 0
 have k1 := hx0_0.cell 1
 have k2 := hx0_0.cell 2
 simp only [List.getElem?_cons_zero, List.getElem?_cons_succ] at k0 k1 k2
 have j0 := hx0_1.cell 0
 have j1 := hx0_1.cell 1
 have j2 := hx0_1.cell 2
 simp only [List.getElem?_cons_zero, List.getElem?_cons_succ] at j0 j1 j2
 clear hW0 hx0_0 hx0_1
 go_enter Tryz.func28, Tryz.ntmps28
 go_upto_region 1 with fail
 rw [HW0.out]
 go_cut [24] (fun q24 wx => ∃ bad, q24 = .bool bad ∧ (bad = true → ¬ OkE h1 t1 q1_ ∨ ¬ OkE h2 t2 q2_) ∧ (bad = false → OkE h1 t1 q1_ ∧ OkE h2 t2 q2_) ∧ Below W0.heap.size W0 wx)
 case first =>
  have TR1 : Hid (∀ W, Calls Tryz.prog 57 #[.string t1] W (fun e w' => ∃ b, e = .returned (.bool b) ∧ (b = true ↔ ∃ x y, RatV t1 q1_ x y) ∧ Below W.heap.size W w')) := fun W => by
   refine (specIsRat_any t1 W ht1).mono ?_
   rintro e w' ⟨b, rfl, ⟨k, hk, hi⟩, hb⟩
   obtain rfl := isCut_unique hk HK1.out
   exact ⟨b, rfl, hi, hb⟩
  have TR2 : Hid (∀ W, Calls Tryz.prog 57 #[.string t2] W (fun e w' => ∃ b, e = .returned (.bool b) ∧ (b = true ↔ ∃ x y, RatV t2 q2_ x y) ∧ Below W.heap.size W w')) := fun W => by
   refine (specIsRat_any t2 W ht2).mono ?_
   rintro e w' ⟨b, rfl, ⟨k, hk, hi⟩, hb⟩
   obtain rfl := isCut_unique hk HK2.out
   exact ⟨b, rfl, hi, hb⟩
  cases h1
  ·cases h2
   ·go_wp2_with fail
    go_meet
    exact ⟨false, rfl, fun e => (by cases e), fun _ => ⟨fun e => (by cases e), fun e => (by cases e)⟩, Below.refl _ _⟩
   ·go_wp2_with fail
    refine (TR2.out _).mono ?_
    rintro e wx ⟨b, rfl, hi, hb⟩
    have HI := hidG hi
    have HBX : Hid (Below W0.heap.size W0 wx) := hb
    clear hi hb
    cases b
    ·go_wp2_with fail
     go_meet
     exact ⟨true, rfl, fun _ => .inr fun h => (Bool.noConfusion (HI.out.2 (h rfl)) : False), fun e => (by cases e), HBX.out⟩
    ·go_wp2_with fail
     go_meet
     exact ⟨false, rfl, fun e => (by cases e), fun _ => ⟨fun e => (by cases e), fun _ => HI.out.1 (by first | rfl | trivial)⟩, HBX.out⟩
  ·go_wp2_with fail
   refine (TR1.out _).mono ?_
   rintro e wx ⟨b, rfl, hi, hb⟩
   have HI := hidG hi
   have HBX : Hid (Below W0.heap.size W0 wx) := hb
   have hxj := (HX0.out wx hb).2
   have m0 := hxj.cell 0
   have m1 := hxj.cell 1
   have m2 := hxj.cell 2
   simp only [List.getElem?_cons_zero, List.getElem?_cons_succ] at m0 m1 m2
   clear hi hb hxj
   cases b
   ·go_wp2_with fail
    go_meet
    exact ⟨true, rfl, fun _ => .inl fun h => (Bool.noConfusion (HI.out.2 (h rfl)) : False), fun e => (by cases e), HBX.out⟩
   ·cases h2
    ·go_wp2_with fail
     go_meet
     exact ⟨false, rfl, fun e => (by cases e), fun _ => ⟨fun _ => HI.out.1 (by first | rfl | trivial), fun e => (by cases e)⟩, HBX.out⟩
    ·go_wp2_with fail
     refine (TR2.out _).mono ?_
     rintro e wy ⟨b, rfl, hi2, hb2⟩
     have HI2 := hidG hi2
     have HBY : Hid (Below W0.heap.size W0 wy) := HBX.out.trans (hb2.mono HBX.out.size)
     clear hi2 hb2
     cases b
     ·go_wp2_with fail
      go_meet
      exact ⟨true, rfl, fun _ => .inr fun h => (Bool.noConfusion (HI2.out.2 (h rfl)) : False), fun e => (by cases e), HBY.out⟩
     ·go_wp2_with fail
      go_meet
      exact ⟨false, rfl, fun e => (by cases e), fun _ => ⟨fun _ => HI.out.1 (by first | rfl | trivial), fun _ => HI2.out.1 (by first | rfl | trivial)⟩, HBY.out⟩
 case rest =>
  obtain ⟨bad, rfl, hbad, hgood, hbc⟩ := hcut
  obtain ⟨wa, rfl⟩ : ∃ wa, wa = wc := ⟨_, rfl⟩
  have HA1 : Hid (Below W0.heap.size W0 wa) := hbc
  have HE1 : Hid (Below w.heap.size w wa) := HB0.out.trans (hbc.mono HB0.out.size)
  have HBAD := hidG hbad
  have HGOOD := hidG hgood
  clear hbc hbad hgood k0 k1 k2 j0 j1 j2
  cases bad
  ·obtain ⟨ok1, ok2⟩ := HGOOD.out (by first | rfl | trivial)
   obtain ⟨x1, y1, X1, Y1, v1, z1, r1, e1, b1, b2, g1⟩ := okE_ends ok1
   obtain ⟨x2, y2, X2, Y2, v2, z2, r2, e2, b3, b4, g2⟩ := okE_ends ok2
   have HV1 := hidG v1
   have HZ1 := hidG z1
   have HV2 := hidG v2
   have HZ2 := hidG z2
   have HRD : Hid (RdE h1 t1 q1_ X1 Y1 ∧ RdE h2 t2 q2_ X2 Y2) := ⟨r1, r2⟩
   have HEQ : Hid ((h1 = true → x1 = X1 ∧ y1 = Y1) ∧ (h2 = true → x2 = X2 ∧ y2 = Y2)) := ⟨e1, e2⟩
   have HLB : Hid (x1.natAbs < lb 281 ∧ y1.natAbs < lb 281 ∧ x2.natAbs < lb 281 ∧ y2.natAbs < lb 281) := ⟨b1, b2, b3, b4⟩
   have HG : Hid ((h1 = true → 0 < y1 ∧ Int.gcd x1 y1 = 1) ∧ (h2 = true → 0 < y2 ∧ Int.gcd x2 y2 = 1)) := ⟨g1, g2⟩
   clear v1 z1 v2 z2 r1 r2 e1 e2 b1 b2 b3 b4 g1 g2 ok1 ok2
   have hxk := (HX0.out wa HA1.out).1
   have k0 := hxk.cell 0
   have k1 := hxk.cell 1
   have k2 := hxk.cell 2
   simp only [List.getElem?_cons_zero, List.getElem?_cons_succ] at k0 k1 k2
   clear hxk
   go_wp2_with fail
   refine (l2EndOf_any h1 o1 t1 q1_ x1 y1 _ ht1 HK1.out HV1.out HZ1.out).mono ?_
   rintro e w1 ⟨ze1, rfl, hze, hb1⟩
   obtain ⟨oo1, hoo1⟩ : ∃ b, (h1 && o1) = b := ⟨_, rfl⟩
   rw [hoo1] at hze
   have HOO1 := hidG hoo1
   have HES1 := hidG hze
   obtain ⟨a1, n1, d1, l1, c1, a2, n2, d2, l2, c2, rfl, _, _⟩ := hze
   have HC1 : Hid (Below W0.heap.size W0 w1) := HA1.out.trans (hb1.mono HA1.out.size)
   clear hb1 hoo1 k0 k1 k2
   obtain ⟨W1, hW1⟩ : ∃ W1, w1.alloc (.cells #[.bool h1, .bool oo1, .int .i64 a1, .bool n1, .slice d1 l1 c1, .int .i64 a2, .bool n2, .slice d2 l2 c2] 88) = W1 := ⟨_, rfl⟩
   have HW1 := hidG hW1
   have HB1 : Hid (Below w1.heap.size w1 W1) := by show Below w1.heap.size w1 W1; rw [← hW1]; exact below_alloc _ _
   have HS1 : Hid (W1.heap.size = w1.heap.size + 1) := by show W1.heap.size = _; rw [← hW1]; simp
   have hx1_0 : Bx W1 (w1.heap.size) [.bool h1, .bool oo1, .int .i64 a1, .bool n1, .slice d1 l1 c1, .int .i64 a2, .bool n2, .slice d2 l2 c2] := by
    rw [← hW1]
    exact bx_new w1 _ _
   have HX1 : Hid (∀ W, Below W1.heap.size W1 W → Bx W (w1.heap.size) [.bool h1, .bool oo1, .int .i64 a1, .bool n1, .slice d1 l1 c1, .int .i64 a2, .bool n2, .slice d2 l2 c2]) := fun W hW => hx1_0.below hx1_0.lt hW
   have HD1 : Hid (Below W0.heap.size W0 W1) := HC1.out.trans (HB1.out.mono HC1.out.size)
   have hxk := (HX0.out W1 HD1.out).2
   have k0 := hxk.cell 0
   have k1 := hxk.cell 1
   have k2 := hxk.cell 2
   simp only [List.getElem?_cons_zero, List.getElem?_cons_succ] at k0 k1 k2
   clear hW1 hx1_0 hxk
   go_upto_region 4 with fail
   rw [HW1.out]
   go_wp2_with fail
   refine (l2EndOf_any h2 o2 t2 q2_ x2 y2 _ ht2 HK2.out HV2.out HZ2.out).mono ?_
   rintro e w2 ⟨ze2, rfl, hze, hb2⟩
   obtain ⟨oo2, hoo2⟩ : ∃ b, (h2 && o2) = b := ⟨_, rfl⟩
   rw [hoo2] at hze
   have HOO2 := hidG hoo2
   have HES2 := hidG hze
   obtain ⟨a3, n3, d3, l3, c3, a4, n4, d4, l4, c4, rfl, _, _⟩ := hze
   have HC2 : Hid (Below W1.heap.size W1 w2) := hb2
   clear hb2 hoo2 k0 k1 k2
   obtain ⟨W2, hW2⟩ : ∃ W2, w2.alloc (.cells #[.bool h2, .bool oo2, .int .i64 a3, .bool n3, .slice d3 l3 c3, .int .i64 a4, .bool n4, .slice d4 l4 c4] 88) = W2 := ⟨_, rfl⟩
   have HW2 := hidG hW2
   have HB2 : Hid (Below w2.heap.size w2 W2) := by show Below w2.heap.size w2 W2; rw [← hW2]; exact below_alloc _ _
   have HS2 : Hid (W2.heap.size = w2.heap.size + 1) := by show W2.heap.size = _; rw [← hW2]; simp
   have hx2_0 : Bx W2 (w2.heap.size) [.bool h2, .bool oo2, .int .i64 a3, .bool n3, .slice d3 l3 c3, .int .i64 a4, .bool n4, .slice d4 l4 c4] := by
    rw [← hW2]
    exact bx_new w2 _ _
   have HX2 : Hid (∀ W, Below W2.heap.size W2 W → Bx W (w2.heap.size) [.bool h2, .bool oo2, .int .i64 a3, .bool n3, .slice d3 l3 c3, .int .i64 a4, .bool n4, .slice d4 l4 c4]) := fun W hW => hx2_0.below hx2_0.lt hW
   have HA12 : Hid (Below W1.heap.size W1 W2) := HC2.out.trans (HB2.out.mono HC2.out.size)
   have HE2 : Hid (Below w.heap.size w W2) := HB0.out.trans ((HD1.out.trans (HA12.out.mono HD1.out.size)).mono HB0.out.size)
   have HI1 := hidG (HES1.out.below (HB1.out.trans (HA12.out.mono HB1.out.size)))
   have HI2 := hidG (HES2.out.below HB2.out)
   have hxk := HX1.out W2 HA12.out
   have k0 := hxk.cell 0
   have k1 := hxk.cell 1
   have k2 := hxk.cell 2
   have k3 := hxk.cell 3
   have k4 := hxk.cell 4
   have k5 := hxk.cell 5
   have k6 := hxk.cell 6
   have k7 := hxk.cell 7
   simp only [List.getElem?_cons_zero, List.getElem?_cons_succ] at k0 k1 k2 k3 k4 k5 k6 k7
   have j0 := hx2_0.cell 0
   have j1 := hx2_0.cell 1
   have j2 := hx2_0.cell 2
   have j3 := hx2_0.cell 3
   have j4 := hx2_0.cell 4
   have j5 := hx2_0.cell 5
   have j6 := hx2_0.cell 6
   have j7 := hx2_0.cell 7
   simp only [List.getElem?_cons_zero, List.getElem?_cons_succ] at j0 j1 j2 j3 j4 j5 j6 j7
   clear hW2 hx2_0 hxk
   go_upto_region 5 with fail
   rw [HW2.out]
   go_wp2_with fail
   refine (l2Empty_any _ _ h1 oo1 x1 y1 h2 oo2 x2 y2 W2 HI1.out HI2.out).mono ?_
   rintro e w3 ⟨rfl, hb3⟩
   have HC3 : Hid (Below W2.heap.size W2 w3) := hb3
   have HE3 : Hid (Below w.heap.size w w3) := HE2.out.trans (hb3.mono HE2.out.size)
   have hxk := HX1.out w3 (HA12.out.trans (hb3.mono HA12.out.size))
   have hxj := HX2.out w3 hb3
   clear hb3 k0 j0 k1 j1 k2 j2 k3 j3 k4 j4 k5 j5 k6 j6 k7 j7
   have k0 := hxk.cell 0
   have k1 := hxk.cell 1
   have k2 := hxk.cell 2
   have k3 := hxk.cell 3
   have k4 := hxk.cell 4
   have k5 := hxk.cell 5
   have k6 := hxk.cell 6
   have k7 := hxk.cell 7
   simp only [List.getElem?_cons_zero, List.getElem?_cons_succ] at k0 k1 k2 k3 k4 k5 k6 k7
   have j0 := hxj.cell 0
   have j1 := hxj.cell 1
   have j2 := hxj.cell 2
   have j3 := hxj.cell 3
   have j4 := hxj.cell 4
   have j5 := hxj.cell 5
   have j6 := hxj.cell 6
   have j7 := hxj.cell 7
   simp only [List.getElem?_cons_zero, List.getElem?_cons_succ] at j0 j1 j2 j3 j4 j5 j6 j7
   clear hxk hxj
   have HNI : Hid (NoneB h1 oo1 x1 y1 h2 oo2 x2 y2 = NoneB h1 oo1 X1 Y1 h2 oo2 X2 Y2) := none_irrel HEQ.out.1 HEQ.out.2
   cases hnb : NoneB h1 oo1 x1 y1 h2 oo2 x2 y2
   ·have HTW : Hid (Two h1 oo1 x1 y1 h2 oo2 x2 y2) := ⟨HG.out.1, HG.out.2, hnb⟩
    have HF : Hid (∀ p q u, Best h1 oo1 x1 y1 h2 oo2 x2 y2 p q → TextR p q u → ResS h1 o1 t1 h2 o2 t2 u) := fun p q u hbe htx => by
     refine ⟨q1_, q2_, HK1.out, HK2.out, .inl ⟨X1, Y1, X2, Y2, HRD.out.1, HRD.out.2, .inl ?_⟩⟩
     rw [HOO1.out, HOO2.out]
     exact ⟨by rw [← HNI.out]; exact hnb, p, q, hbe.irrel X1 Y1 X2 Y2 HEQ.out.1 HEQ.out.2, htx⟩
    clear hnb
    go_wp2_with fail
    refine (l2Best_any _ _ h1 oo1 x1 y1 h2 oo2 x2 y2 w3 (HI1.out.below HC3.out) (HI2.out.below HC3.out) HTW.out HLB.out).mono ?_
    rintro e w4 ⟨z, p, q, rfl, hq, hbe, hb4⟩
    have HQ := hidG hq
    have HBE := hidG hbe
    have HE4 : Hid (Below w.heap.size w w4) := HE3.out.trans (hb4.mono HE3.out.size)
    clear hq hbe hb4
    go_wp2_with fail
    refine (l2Told_any 0 _ p q _ (Nat.zero_le _) HQ.out).mono ?_
    rintro e w5 ⟨u, rfl, hu, hb5⟩
    have HRS := hidG (HF.out _ _ _ HBE.out hu)
    have HE5 : Hid (Below w.heap.size w w5) := HE4.out.trans (hb5.mono HE4.out.size)
    clear hu hb5
    go_wp2
    go_ret
    exact ⟨_, rfl, HRS.out, HE5.out⟩
   ·have HN : Hid (ResS h1 o1 t1 h2 o2 t2 ⟨#[]⟩) := by
     show ResS h1 o1 t1 h2 o2 t2 ⟨#[]⟩
     refine ⟨q1_, q2_, HK1.out, HK2.out, .inl ⟨X1, Y1, X2, Y2, HRD.out.1, HRD.out.2, .inr ?_⟩⟩
     rw [HOO1.out, HOO2.out]
     exact ⟨by rw [← HNI.out]; exact hnb, rfl⟩
    clear hnb
    go_wp2
    go_ret
    exact ⟨_, rfl, HN.out, HE3.out⟩
  ·have HN : Hid (ResS h1 o1 t1 h2 o2 t2 ⟨#[]⟩) := resS_no HK1.out HK2.out (HBAD.out (by first | rfl | trivial))
   go_wp2
   go_ret
   exact ⟨_, rfl, HN.out, HE1.out⟩
set_option maxRecDepth 100000 in
set_option maxHeartbeats 2000000 in
theorem szBound_any (h o : Bool) (t : ByteArray) (n : Int) (w : World) (ht : t.size ≤ maxLen) (h0 : 0 ≤ n) (hn : n ≤ 1048576) :
  Calls Tryz.prog 36 #[.agg #[.bool h, .bool o, .string t], .int .i64 n] w fun e w' => e = .returned (.int .i64 (if n < t.size then -1 else n - t.size)) ∧ Below w.heap.size w w' := by
 unfold maxLen at ht
 by_cases c : n < (t.size : Int)
 ·rw [if_pos c]
  have z : decide (n - (t.size : Int) < 0) = true := decide_eq_true (by omega)
  go_enter Tryz.func36, Tryz.ntmps36
  go_wp2
  go_ret
  exact ⟨rfl, below_alloc _ _⟩
 ·rw [if_neg c]
  have z : decide (n - (t.size : Int) < 0) = false := decide_eq_false (by omega)
  go_enter Tryz.func36, Tryz.ntmps36
  go_wp2
  go_ret
  exact ⟨rfl, below_alloc _ _⟩
set_option maxRecDepth 100000 in
set_option maxHeartbeats 2000000 in
theorem toBound_any (h o : Bool) (t : ByteArray) (w : World) :
  Calls Tryz.prog 37 #[.agg #[.bool h, .bool o, .string t]] w fun e w' => e = .returned (.agg #[.bool h, .bool o, .string t]) ∧ Below w.heap.size w w' := by
 go_enter Tryz.func37, Tryz.ntmps37
 go_wp2
 refine bodyPost_ret (v := .agg #[.bool h, .bool o, .string t]) (by simp [results, Tryz.results37, go_sem]) rfl ⟨rfl, ?_⟩
 repeat' (first | exact Below.refl _ _ | refine Below.alloc ?_ ?_ _ | refine Below.setCell ?_ ?_ _ | (simp; done) | (simp; omega) | (dsimp only; simp; done))
set_option maxRecDepth 100000 in
set_option maxHeartbeats 4000000 in
theorem exactSimplest_any (h1 o1 : Bool) (t1 : ByteArray) (h2 o2 : Bool) (t2 : ByteArray) (w : World) (ht1 : t1.size ≤ maxLen) (ht2 : t2.size ≤ maxLen) (h : LT w ∧ SP w ∧ NS w) :
    Calls Tryz.prog 9 #[.agg #[.bool h1, .bool o1, .string t1], .agg #[.bool h2, .bool o2, .string t2]] w fun e w' => e = .returned (.bool true) ∧ Below w.heap.size w w' := by
  have HS : Hid (LT w ∧ SP w ∧ NS w) := h
  clear h
  obtain ⟨W0, hW0⟩ : ∃ W0, (w.alloc (.cells #[.bool h1, .bool o1, .string t1] 40)).alloc (.cells #[.bool h2, .bool o2, .string t2] 40) = W0 := ⟨_, rfl⟩
  have HW0 := hidG hW0
  have HB0 : Hid (Below w.heap.size w W0) := by show Below w.heap.size w W0; rw [← hW0]; exact below_al (below_alloc _ _) _
  have HS0 : Hid (W0.heap.size = w.heap.size + 2) := by show W0.heap.size = _; rw [← hW0]; simp
  have hx0_0 : Bx W0 (w.heap.size) [.bool h1, .bool o1, .string t1] := by
    rw [← hW0]
    exact (bx_new w _ _).alloc _
  have hx0_1 : Bx W0 (w.heap.size + 1) [.bool h2, .bool o2, .string t2] := by
    rw [← hW0]
    have h := bx_new (w.alloc (.cells #[.bool h1, .bool o1, .string t1] 40)) [.bool h2, .bool o2, .string t2] 40
    rw [World.size_alloc] at h
    exact h
  have HX0 : Hid (∀ W, Below W0.heap.size W0 W → Bx W (w.heap.size) [.bool h1, .bool o1, .string t1] ∧ Bx W (w.heap.size + 1) [.bool h2, .bool o2, .string t2]) := fun W hW => ⟨hx0_0.below hx0_0.lt hW, hx0_1.below hx0_1.lt hW⟩
  have k0 := hx0_0.cell 0
  have k1 := hx0_0.cell 1
  have k2 := hx0_0.cell 2
  simp only [List.getElem?_cons_zero, List.getElem?_cons_succ] at k0 k1 k2
  clear hW0 hx0_0 hx0_1
  go_enter Tryz.func9, Tryz.ntmps9
  go_upto_region 1 with fail
  rw [HW0.out]
  go_wp2_with fail
  refine (szBound_any h1 o1 t1 1048576 _ ht1 (by decide) (by decide)).mono ?_
  rintro e w1 ⟨rfl, hb1⟩
  have HA1 : Hid (Below W0.heap.size W0 w1) := hb1
  have HE1 : Hid (Below w.heap.size w w1) := HB0.out.trans (hb1.mono HB0.out.size)
  clear hb1 k0 k1 k2
  by_cases c1 : (1048576 : Int) < t1.size
  · rw [if_pos c1]
    clear c1
    go_wp2
    go_ret
    exact ⟨rfl, HE1.out⟩
  rw [if_neg c1]
  obtain ⟨n1, hn1⟩ : ∃ n1 : Int, 1048576 - (t1.size : Int) = n1 := ⟨_, rfl⟩
  have g0 : 0 ≤ n1 := by omega
  have g1 : n1 ≤ 1048576 := by omega
  rw [hn1]
  clear hn1 c1
  have z1 : decide (n1 < 0) = false := decide_eq_false (by omega)
  have hxk := (HX0.out w1 HA1.out).2
  have k0 := hxk.cell 0
  have k1 := hxk.cell 1
  have k2 := hxk.cell 2
  simp only [List.getElem?_cons_zero, List.getElem?_cons_succ] at k0 k1 k2
  clear hxk
  go_wp2_with fail
  refine (szBound_any h2 o2 t2 n1 _ ht2 g0 g1).mono ?_
  rintro e w2 ⟨rfl, hb2⟩
  have HA2 : Hid (Below W0.heap.size W0 w2) := HA1.out.trans (hb2.mono HA1.out.size)
  have HE2 : Hid (Below w.heap.size w w2) := HB0.out.trans (HA2.out.mono HB0.out.size)
  clear hb2 k0 k1 k2
  by_cases c2 : n1 < (t2.size : Int)
  · rw [if_pos c2]
    clear c2
    go_wp2
    go_ret
    exact ⟨rfl, HE2.out⟩
  rw [if_neg c2]
  obtain ⟨n2, hn2⟩ : ∃ n2 : Int, n1 - (t2.size : Int) = n2 := ⟨_, rfl⟩
  have g2 : 0 ≤ n2 := by omega
  rw [hn2]
  clear hn2 c2
  have z2 : decide (n2 < 0) = false := decide_eq_false (by omega)
  go_wp2_with fail
  have hxka := HX0.out w2 HA2.out
  have hk0 := hxka.1
  have hk1 := hxka.2
  have k0 := hk0.cell 0
  have k1 := hk0.cell 1
  have k2 := hk0.cell 2
  simp only [List.getElem?_cons_zero, List.getElem?_cons_succ] at k0 k1 k2
  have j0 := hk1.cell 0
  have j1 := hk1.cell 1
  have j2 := hk1.cell 2
  simp only [List.getElem?_cons_zero, List.getElem?_cons_succ] at j0 j1 j2
  clear hxka hk0 hk1
  go_region_held3 (fun W => W.cell? ⟨w.heap.size, 0, none⟩ = some (.bool h1) ∧ W.cell? ⟨w.heap.size, 1, none⟩ = some (.bool o1) ∧ W.cell? ⟨w.heap.size, 2, none⟩ = some (.string t1) ∧ W.cell? ⟨w.heap.size + 1, 0, none⟩ = some (.bool h2) ∧ W.cell? ⟨w.heap.size + 1, 1, none⟩ = some (.bool o2) ∧ W.cell? ⟨w.heap.size + 1, 2, none⟩ = some (.string t2)) (first | with_reducible assumption | go_keep) (first
    | (go_at_call_of 37 (Value.string t1)
       refine (toBound_any h1 o1 t1 _).mono ?_
       rintro e wt1 ⟨rfl, hb⟩
       have HQ1a : Hid (Below W0.heap.size W0 wt1) := HA2.out.trans (((Below.refl _ w2).drew.trans hb).mono HA2.out.size)
       have hxa := HX0.out wt1 HQ1a.out
       have hSwt1 : wt1.cell? ⟨w.heap.size, 0, none⟩ = some (.bool h1) ∧ wt1.cell? ⟨w.heap.size, 1, none⟩ = some (.bool o1) ∧ wt1.cell? ⟨w.heap.size, 2, none⟩ = some (.string t1) ∧ wt1.cell? ⟨w.heap.size + 1, 0, none⟩ = some (.bool h2) ∧ wt1.cell? ⟨w.heap.size + 1, 1, none⟩ = some (.bool o2) ∧ wt1.cell? ⟨w.heap.size + 1, 2, none⟩ = some (.string t2) := ⟨(hxa.1).cell 0, (hxa.1).cell 1, (hxa.1).cell 2, (hxa.2).cell 0, (hxa.2).cell 1, (hxa.2).cell 2⟩
       clear hxa
       clear hb)
    | (go_at_call_of 37 (Value.string t2)
       refine (toBound_any h2 o2 t2 _).mono ?_
       rintro e wt2 ⟨rfl, hb⟩
       have HQ2a : Hid (Below W0.heap.size W0 wt2) := HQ1a.out.trans (hb.mono HQ1a.out.size)
       have hxa := HX0.out wt2 HQ2a.out
       have hSwt2 : wt2.cell? ⟨w.heap.size, 0, none⟩ = some (.bool h1) ∧ wt2.cell? ⟨w.heap.size, 1, none⟩ = some (.bool o1) ∧ wt2.cell? ⟨w.heap.size, 2, none⟩ = some (.string t1) ∧ wt2.cell? ⟨w.heap.size + 1, 0, none⟩ = some (.bool h2) ∧ wt2.cell? ⟨w.heap.size + 1, 1, none⟩ = some (.bool o2) ∧ wt2.cell? ⟨w.heap.size + 1, 2, none⟩ = some (.string t2) := ⟨(hxa.1).cell 0, (hxa.1).cell 1, (hxa.1).cell 2, (hxa.2).cell 0, (hxa.2).cell 1, (hxa.2).cell 2⟩
       clear hxa
       clear hb)
    | (go_at_call 28
       refine (specSimplest_any h1 o1 t1 h2 o2 t2 _ ht1 ht2).mono ?_
       rintro e wma ⟨u, rfl, hu, hb⟩
       have HU := hidG hu
       have HQMa : Hid (Below W0.heap.size W0 wma) := HQ2a.out.trans (hb.mono HQ2a.out.size)
       have hxa := HX0.out wma HQMa.out
       have hSwma : wma.cell? ⟨w.heap.size, 0, none⟩ = some (.bool h1) ∧ wma.cell? ⟨w.heap.size, 1, none⟩ = some (.bool o1) ∧ wma.cell? ⟨w.heap.size, 2, none⟩ = some (.string t1) ∧ wma.cell? ⟨w.heap.size + 1, 0, none⟩ = some (.bool h2) ∧ wma.cell? ⟨w.heap.size + 1, 1, none⟩ = some (.bool o2) ∧ wma.cell? ⟨w.heap.size + 1, 2, none⟩ = some (.string t2) := ⟨(hxa.1).cell 0, (hxa.1).cell 1, (hxa.1).cell 2, (hxa.2).cell 0, (hxa.2).cell 1, (hxa.2).cell 2⟩
       clear hxa
       clear hu hb))
  all_goals
    try simp only [List.getElem_toArray, List.getElem_cons_succ, List.getElem_cons_zero, Act.put, List.setIfInBounds_toArray, List.set_cons_succ, List.set_cons_zero]
    clear k0 k1 k2 j0 j1 j2
    go_wp2_with fail
    have hxkb := HX0.out wma HQMa.out
    have hk0 := hxkb.1
    have hk1 := hxkb.2
    have k0 := hk0.cell 0
    have k1 := hk0.cell 1
    have k2 := hk0.cell 2
    simp only [List.getElem?_cons_zero, List.getElem?_cons_succ] at k0 k1 k2
    have j0 := hk1.cell 0
    have j1 := hk1.cell 1
    have j2 := hk1.cell 2
    simp only [List.getElem?_cons_zero, List.getElem?_cons_succ] at j0 j1 j2
    clear hxkb hk0 hk1
    go_region_held3 (fun W => W.cell? ⟨w.heap.size, 0, none⟩ = some (.bool h1) ∧ W.cell? ⟨w.heap.size, 1, none⟩ = some (.bool o1) ∧ W.cell? ⟨w.heap.size, 2, none⟩ = some (.string t1) ∧ W.cell? ⟨w.heap.size + 1, 0, none⟩ = some (.bool h2) ∧ W.cell? ⟨w.heap.size + 1, 1, none⟩ = some (.bool o2) ∧ W.cell? ⟨w.heap.size + 1, 2, none⟩ = some (.string t2)) (first | with_reducible assumption | go_keep) (first
      | (go_at_call_of 37 (Value.string t1)
         refine (toBound_any h1 o1 t1 _).mono ?_
         rintro e wt1 ⟨rfl, hb⟩
         have HQ1b : Hid (Below W0.heap.size W0 wt1) := HQMa.out.trans (((Below.refl _ wma).drew.trans hb).mono HQMa.out.size)
         have hxa := HX0.out wt1 HQ1b.out
         have hSwt1 : wt1.cell? ⟨w.heap.size, 0, none⟩ = some (.bool h1) ∧ wt1.cell? ⟨w.heap.size, 1, none⟩ = some (.bool o1) ∧ wt1.cell? ⟨w.heap.size, 2, none⟩ = some (.string t1) ∧ wt1.cell? ⟨w.heap.size + 1, 0, none⟩ = some (.bool h2) ∧ wt1.cell? ⟨w.heap.size + 1, 1, none⟩ = some (.bool o2) ∧ wt1.cell? ⟨w.heap.size + 1, 2, none⟩ = some (.string t2) := ⟨(hxa.1).cell 0, (hxa.1).cell 1, (hxa.1).cell 2, (hxa.2).cell 0, (hxa.2).cell 1, (hxa.2).cell 2⟩
         clear hxa
         clear hb)
      | (go_at_call_of 37 (Value.string t2)
         refine (toBound_any h2 o2 t2 _).mono ?_
         rintro e wt2 ⟨rfl, hb⟩
         have HQ2b : Hid (Below W0.heap.size W0 wt2) := HQ1b.out.trans (hb.mono HQ1b.out.size)
         have hxa := HX0.out wt2 HQ2b.out
         have hSwt2 : wt2.cell? ⟨w.heap.size, 0, none⟩ = some (.bool h1) ∧ wt2.cell? ⟨w.heap.size, 1, none⟩ = some (.bool o1) ∧ wt2.cell? ⟨w.heap.size, 2, none⟩ = some (.string t1) ∧ wt2.cell? ⟨w.heap.size + 1, 0, none⟩ = some (.bool h2) ∧ wt2.cell? ⟨w.heap.size + 1, 1, none⟩ = some (.bool o2) ∧ wt2.cell? ⟨w.heap.size + 1, 2, none⟩ = some (.string t2) := ⟨(hxa.1).cell 0, (hxa.1).cell 1, (hxa.1).cell 2, (hxa.2).cell 0, (hxa.2).cell 1, (hxa.2).cell 2⟩
         clear hxa
         clear hb)
      | (go_at_call 27
         have HWW : Hid (Below w.heap.size w wt2) := HB0.out.trans (HQ2b.out.mono HB0.out.size)
         refine (implSimplest_any h1 o1 t1 h2 o2 t2 _ ht1 ht2 (HS.out.2.1.below HWW.out) (HS.out.2.2.below HWW.out) (HS.out.1.below HWW.out)).mono ?_
         rintro e wmb ⟨v, rfl, hu, hb⟩
         obtain rfl : u = v := HU.out.eq hu
         have HQMb : Hid (Below W0.heap.size W0 wmb) := HQ2b.out.trans (hb.mono HQ2b.out.size)
         have hxa := HX0.out wmb HQMb.out
         have hSwmb : wmb.cell? ⟨w.heap.size, 0, none⟩ = some (.bool h1) ∧ wmb.cell? ⟨w.heap.size, 1, none⟩ = some (.bool o1) ∧ wmb.cell? ⟨w.heap.size, 2, none⟩ = some (.string t1) ∧ wmb.cell? ⟨w.heap.size + 1, 0, none⟩ = some (.bool h2) ∧ wmb.cell? ⟨w.heap.size + 1, 1, none⟩ = some (.bool o2) ∧ wmb.cell? ⟨w.heap.size + 1, 2, none⟩ = some (.string t2) := ⟨(hxa.1).cell 0, (hxa.1).cell 1, (hxa.1).cell 2, (hxa.2).cell 0, (hxa.2).cell 1, (hxa.2).cell 2⟩
         clear hxa
         clear hu hb))
    all_goals
      try simp only [List.getElem_toArray, List.getElem_cons_succ, List.getElem_cons_zero, Act.put, List.setIfInBounds_toArray, List.set_cons_succ, List.set_cons_zero]
      go_wp2
      go_ret
      exact ⟨rfl, HB0.out.trans (HQMb.out.mono HB0.out.size)⟩
end Go.Proofs.YtfmpapcfhoomkaaGreatDoor
namespace Go.Proofs.YtfmpapcfhoomkaaGreatDoor.fnExactSimplest
open Go.ChangeShapes Go.WideShapes Go.ChangeAt Go.RowKit
open Go.ChangeMaps (open_string shut_string)
set_option linter.unusedVariables false
theorem own : ownKnob Tryz.prog.godebug = none := by kernel_rfl
theorem laidOut : laidOutB Tryz.prog = true := by kernel_rfl
theorem cellsB : Tryz.prog.cellsOf 40 = 3 := by kernel_rfl
theorem cellsBool : Tryz.prog.cellsOf 4 = 1 := by kernel_rfl
theorem cellsStr : Tryz.prog.cellsOf 9 = 1 := by kernel_rfl
set_option maxRecDepth 100000 in
theorem open_bound {H : Type} {enc : TypeId × Value → H} {W : World} {base : Nat} {v : Value} {d : DataW H} {p : List MemPlace} (hval : Value.okWide Tryz.prog W .any base 40 v) (hd : DataW.Trod enc Tryz.prog W 0 (fun _ => true) true 40 v d p) : ∃ (h o : Bool) (t : ByteArray), v = .agg #[.bool h, .bool o, .string t] ∧ t.size ≤ maxLen := by
 obtain ⟨cs, rfl, hsz⟩ := okWide_struct Tryz.underlying40 hval
 rw [cellsB] at hsz
 obtain ⟨fuel, hf⟩ := hd
 obtain ⟨xs, n, rfl, hx, hl, hxl, hf2⟩ := DataW.trod_struct Tryz.underlying40 hf
 obtain ⟨l⟩ := cs
 match l, hsz, xs, hxl with
 | [c0, c1, c2], _, [x0, x1, x2], _ =>
  have f0 : DataW.trod enc Tryz.prog W 0 (fun _ => true) true n 4 (([c0, c1, c2].drop 0).take (Tryz.prog.cellsOf 4)) = some x0 := hf2 0 _ rfl
  have f1 : DataW.trod enc Tryz.prog W 0 (fun _ => true) true n 4 (([c0, c1, c2].drop 1).take (Tryz.prog.cellsOf 4)) = some x1 := hf2 1 _ rfl
  have f2 : DataW.trod enc Tryz.prog W 0 (fun _ => true) true n 9 (([c0, c1, c2].drop 2).take (Tryz.prog.cellsOf 9)) = some x2 := hf2 2 _ rfl
  rw [cellsBool] at f0 f1
  rw [cellsStr] at f2
  obtain ⟨b0, e0, _⟩ := DataW.trod_bool Tryz.underlying4 f0
  obtain ⟨b1, e1, _⟩ := DataW.trod_bool Tryz.underlying4 f1
  obtain ⟨s2, e2, _, hs2⟩ := DataW.trod_string Tryz.underlying9 f2
  have g0 : c0 = .bool b0 := by simpa using e0
  have g1 : c1 = .bool b1 := by simpa using e1
  have g2 : c2 = .string s2 := by simpa using e2
  exact ⟨b0, b1, s2, by rw [g0, g1, g2], hs2⟩
set_option maxRecDepth 100000 in
theorem lifted (os : Os) (started : os.Started) (H : Type) (enc : TypeId × Value → H) :
  ReturnsInHanded {} Tryz.checked os 9 .any (fun w args => (Rows.fnExactSimplestSpec.pre enc Tryz.prog Tryz.f9 [] false w args ∧ laidMetH Tryz.prog Rows.fnExactSimplestRow.laid w) ∧ sizedMet enc Tryz.prog Tryz.f9 (OpenSpec.ofChange Rows.fnExactSimplestSpec) false w args)
   (Rows.fnExactSimplestSpec.post enc Tryz.prog Tryz.f9 false true false false) := by
 refine returnsInHanded_of_change_and (C := Tryz.checked) (X := fun w _ => laidMetH Tryz.prog Rows.fnExactSimplestRow.laid w) (fun _ _ _ hh h => h.of_heap hh) own started (by kernel_rfl) Tryz.func9
  (ChangeSpec.witness_shaped (enc := enc) (C := Tryz.checked) (os := os) (X := fun w _ => laidMetH Tryz.prog Rows.fnExactSimplestRow.laid w) false (World.laidAll Tryz.prog os Rows.fnExactSimplestRow.laid) #[.agg #[.bool false, .bool false, .string ByteArray.empty], .agg #[.bool false, .bool false, .string ByteArray.empty]] 8 (World.laidAll_os _ _ _)
   (World.shaped_of_ZipB (by kernel_rfl) (by kernel_rfl)) (by kernel_rfl) (by kernel_rfl) (by kernel_rfl)
   (by rw [MakeChecks.laidMetH_plain _ _ _ (by kernel_rfl)]; exact laidMet_laidAll _ (by kernel_rfl) (by kernel_rfl))) ?_
 intro W base args ds gs before hval0 hW _ _ hL _
 have hval : ∀ (j : Nat) t v, Tryz.f9.params[j]? = some t → args[j]? = some v → Value.okWide Tryz.prog W .any base t v := hval0
 have hW' := hW
 obtain ⟨p, q, hA0, hV, rfl, hfz, hnd⟩ := hW
 have hA : DataW.TrodAll enc Tryz.prog W 0 (fun _ => true) true Tryz.f9.params.toList args.toList ds p := hA0
 rw [Tryz.params9] at hA hval
 obtain ⟨v0, vs0, d0, ds0, p0, q0, hargs, rfl, rfl, h0, r0⟩ := trodAll_cons hA
 obtain ⟨v1, vs1, d1, ds1, p1, q1, rfl, rfl, rfl, h1, r1⟩ := trodAll_cons r0
 obtain ⟨rfl, rfl, rfl⟩ := trodAll_nil r1
 obtain rfl : args = #[v0, v1] := by cases args; simp_all
 obtain ⟨g, t, cs, fuel, d, p', g2, t2, cs2, fuel2, d2, p2, g3, t3, cs3, fuel3, d3, p3, rfl, hg, ht, hvar, hd, hg2, ht2, hvar2, hd2, hg3, ht3, hvar3, hd3, rfl⟩ := trodVars_three hV
 have k0 := h0
 have k1 := h1
 have lt0 : ∀ x ∈ p0, x.block < W.heap.size := by obtain ⟨m, hm⟩ := k0; exact DataW.trod_lt m _ _ _ hm
 have lt1 : ∀ x ∈ p1, x.block < W.heap.size := by obtain ⟨m, hm⟩ := k1; exact DataW.trod_lt m _ _ _ hm
 obtain ⟨bh0, bo0, bt0, rfl, w0⟩ := open_bound (hval 0 40 v0 rfl rfl) h0
 obtain ⟨bh1, bo1, bt1, rfl, w1⟩ := open_bound (hval 1 40 v1 rfl rfl) h1
 rw [MakeChecks.laidMetH_plain _ _ _ (by kernel_rfl)] at hL
 have hsp : LT W ∧ SP W ∧ NS W := all3_of_laid hL
 clear hA0 hval0
 refine (exactSimplest_any bh0 bo0 bt0 bh1 bo1 bt1 W w0 w1 hsp).mono fun e W' ⟨he, bel⟩ => ?_
 subst he
 have hlt1 : 2 < W.heap.size := cell_lt hsp.2.2.1
 have hlt2 : 0 < W.heap.size := cell_lt hsp.2.1.1.1
 have hlt3 : 1 < W.heap.size := block_lt hsp.1
 obtain rfl := Option.some.inj (gSteps.symm.trans hg)
 obtain rfl := Option.some.inj (tSteps.symm.trans ht)
 obtain rfl := Option.some.inj (gSigns.symm.trans hg2)
 obtain rfl := Option.some.inj (tSigns.symm.trans ht2)
 obtain rfl := Option.some.inj (gTens.symm.trans hg3)
 obtain rfl := Option.some.inj (tTens.symm.trans ht3)
 have hdx0 : DataW.trod enc Tryz.prog W 0 (fun _ => true) true fuel 157 cs.toList = some (d, p') := hd
 have hvx0 : W.var? Tryz.prog "loop.example/g00007/impl.noSteps" = some cs := hvar
 have hltx0 : ∀ x ∈ p', x.block < W.heap.size := DataW.trod_lt fuel _ _ _ hdx0
 obtain ⟨fl0, hq0⟩ := Below.trod laidOut (by kernel_rfl) (of_decide_eq_true (by kernel_rfl)) (v := .agg cs) (⟨fuel, by simpa [Value.cells] using hdx0⟩ : DataW.Trod enc Tryz.prog W 0 (fun _ => true) true 157 (.agg cs) d p') bel hltx0
 have hz0 : DataW.trod enc Tryz.prog W' 0 (fun b => decide (b < W.heap.size)) true fl0 157 cs.toList = some (d, p') := by simpa [Value.cells] using hq0
 have hdx1 : DataW.trod enc Tryz.prog W 0 (fun _ => true) true fuel2 139 cs2.toList = some (d2, p2) := hd2
 have hvx1 : W.var? Tryz.prog "loop.example/g00007/impl.signPairs" = some cs2 := hvar2
 have hltx1 : ∀ x ∈ p2, x.block < W.heap.size := DataW.trod_lt fuel2 _ _ _ hdx1
 obtain ⟨fl1, hq1⟩ := Below.trod laidOut (by kernel_rfl) (of_decide_eq_true (by kernel_rfl)) (v := .agg cs2) (⟨fuel2, by simpa [Value.cells] using hdx1⟩ : DataW.Trod enc Tryz.prog W 0 (fun _ => true) true 139 (.agg cs2) d2 p2) bel hltx1
 have hz1 : DataW.trod enc Tryz.prog W' 0 (fun b => decide (b < W.heap.size)) true fl1 139 cs2.toList = some (d2, p2) := by simpa [Value.cells] using hq1
 have hdx2 : DataW.trod enc Tryz.prog W 0 (fun _ => true) true fuel3 144 cs3.toList = some (d3, p3) := hd3
 have hvx2 : W.var? Tryz.prog "loop.example/g00007/impl.limbTens" = some cs3 := hvar3
 have hltx2 : ∀ x ∈ p3, x.block < W.heap.size := DataW.trod_lt fuel3 _ _ _ hdx2
 obtain ⟨fl2, hq2⟩ := Below.trod laidOut (by kernel_rfl) (of_decide_eq_true (by kernel_rfl)) (v := .agg cs3) (⟨fuel3, by simpa [Value.cells] using hdx2⟩ : DataW.Trod enc Tryz.prog W 0 (fun _ => true) true 144 (.agg cs3) d3 p3) bel hltx2
 have hz2 : DataW.trod enc Tryz.prog W' 0 (fun b => decide (b < W.heap.size)) true fl2 144 cs3.toList = some (d3, p3) := by simpa [Value.cells] using hq2
 have hv3 := trodVars_mk1 (enc := enc) (spare := fun b => decide (b < W.heap.size)) gTens tTens (var?_below bel gTens hlt3 hvx2) hz2
 have hv2 : DataW.TrodVars enc Tryz.prog W' (fun b => decide (b < W.heap.size)) ["loop.example/g00007/impl.signPairs", "loop.example/g00007/impl.limbTens"] [d2, d3] (MemPlace.row ⟨0, 0, none⟩ cs2.size ++ p2 ++ (MemPlace.row ⟨1, 0, none⟩ cs3.size ++ p3)) :=
  ⟨_, _, cs2, fl1, p2, _, gSigns, tSigns, var?_below bel gSigns hlt2 hvx1, hz1, hv3, rfl⟩
 have hv' : DataW.TrodVars enc Tryz.prog W' (fun b => decide (b < W.heap.size)) ["loop.example/g00007/impl.noSteps", "loop.example/g00007/impl.signPairs", "loop.example/g00007/impl.limbTens"] [d, d2, d3] (MemPlace.row ⟨2, 0, none⟩ cs.size ++ p' ++ (MemPlace.row ⟨0, 0, none⟩ cs2.size ++ p2 ++ (MemPlace.row ⟨1, 0, none⟩ cs3.size ++ p3))) :=
  ⟨_, _, cs, fl0, p', _, gSteps, tSteps, var?_below bel gSteps hlt1 hvx0, hz0, hv2, rfl⟩
 exact ⟨_, rfl, _, _, _, [], _, _, hW', trodAll_mk1 (shut_bool Tryz.underlying4 _), (trodAll_cons_mk (Below.trod laidOut (by kernel_rfl) (of_decide_eq_true (by kernel_rfl)) k0 bel lt0) (trodAll_cons_mk (Below.trod laidOut (by kernel_rfl) (of_decide_eq_true (by kernel_rfl)) k1 bel lt1) trodAll_mk0)), hv', bel.frame _, fun h => by cases h⟩
theorem over : Rows.fnExactSimplestRow.holds Tryz.pinned (OpenSpec.ofChange Rows.fnExactSimplestSpec) :=
 OpenClaim.holds_of_wide 9 Tryz.f9 rfl rfl rfl rfl rfl rfl rfl ⟨rfl, rfl, rfl, rfl, rfl⟩ rfl rfl rfl rfl rfl (by kernel_rfl) Tryz.func9 (by kernel_rfl)
  (of_decide_eq_true (by kernel_rfl)) (by unfold Func.isWrapper; first | (rw [if_pos (by decide +kernel)]; kernel_rfl) | (rw [if_neg (by decide +kernel)]; exact ⟨rfl, rfl⟩))
  (fun os started H enc _ => lifted os started H enc)
theorem plain (f : FuncId) (fn : Func) (hf : Tryz.pinned.checked.prog.funcNamed "loop.example/g00007/laws.FnExactSimplest" = some f) (hfn : Tryz.pinned.checked.prog.funcs[f]? = some fn) :
  false = Tryz.pinned.checked.prog.looks [] ∧ ∀ (j : Nat) t, fn.params[j]? = some t → Tryz.pinned.checked.prog.wantsStandIn t = false := by
 obtain rfl : f = 9 := Option.some.inj ((show Tryz.prog.funcNamed "loop.example/g00007/laws.FnExactSimplest" = some 9 by kernel_rfl).symm.trans hf) |>.symm
 obtain rfl : fn = Tryz.f9 := (Option.some.inj (Tryz.func9.symm.trans hfn)).symm
 refine ⟨by kernel_rfl, fun j t ht => ?_⟩
 rw [Tryz.params9] at ht
 obtain rfl : t = 40 := by simpa using Array.mem_of_getElem? ht
 exact (show Tryz.prog.wantsStandIn 40 = false by kernel_rfl)
end Go.Proofs.YtfmpapcfhoomkaaGreatDoor.fnExactSimplest
namespace Go.Proofs.YtfmpapcfhoomkaaGreatDoor
theorem fnExactSimplest_holds : Rows.FnExactSimplestCardSaid :=
 Claim7.holds_tied_plain_at .later [] _ _ _ _ fnExactSimplest.over (fun _ h => by cases h) (by kernel_rfl) (fun _ h => by cases h) fnExactSimplest_row_tie rfl ⟨rfl, rfl⟩ (by kernel_rfl) rfl fnExactSimplest.plain (by kernel_rfl)
#print axioms fnExactSimplest_holds
end Go.Proofs.YtfmpapcfhoomkaaGreatDoor
