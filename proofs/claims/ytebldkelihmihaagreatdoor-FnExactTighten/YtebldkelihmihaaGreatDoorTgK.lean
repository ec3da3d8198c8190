import Derived.Test.YtebldkelihmihaaGreatDoorTgON
namespace Go.Proofs.YtebldkelihmihaaGreatDoor.L
open Go.ChangeShapes Go.WideShapes Go.ChangeAt Go.RowKit
theorem Bx.f8 {W : World} {g : Nat} {l : List Value} (h : Bx W g l) : W.frozen? ⟨g, 0, none⟩ = false ∧ W.frozen? ⟨g, 1, none⟩ = false ∧ W.frozen? ⟨g, 2, none⟩ = false ∧ W.frozen? ⟨g, 3, none⟩ = false ∧ W.frozen? ⟨g, 4, none⟩ = false ∧ W.frozen? ⟨g, 5, none⟩ = false ∧ W.frozen? ⟨g, 6, none⟩ = false ∧ W.frozen? ⟨g, 7, none⟩ = false := ⟨h.frozen 0, h.frozen 1, h.frozen 2, h.frozen 3, h.frozen 4, h.frozen 5, h.frozen 6, h.frozen 7⟩
theorem Bx.set8 {W : World} {g : Nat} {a0 a1 a2 a3 a4 a5 a6 a7 : Value} (h : Bx W g [a0, a1, a2, a3, a4, a5, a6, a7]) (u0 u1 u2 u3 u4 u5 u6 u7 : Value) : Bx ((((((((W.setCell ⟨g, 0, none⟩ u0).setCell ⟨g, 1, none⟩ u1).setCell ⟨g, 2, none⟩ u2).setCell ⟨g, 3, none⟩ u3).setCell ⟨g, 4, none⟩ u4).setCell ⟨g, 5, none⟩ u5).setCell ⟨g, 6, none⟩ u6).setCell ⟨g, 7, none⟩ u7) g [u0, u1, u2, u3, u4, u5, u6, u7] := (((((((h.set 0 u0).set 1 u1).set 2 u2).set 3 u3).set 4 u4).set 5 u5).set 6 u6).set 7 u7
theorem bel8 {N : Nat} {w W : World} (h : Below N w W) {g : Nat} (hg : N ≤ g) (u0 u1 u2 u3 u4 u5 u6 u7 : Value) : Below N w ((((((((W.setCell ⟨g, 0, none⟩ u0).setCell ⟨g, 1, none⟩ u1).setCell ⟨g, 2, none⟩ u2).setCell ⟨g, 3, none⟩ u3).setCell ⟨g, 4, none⟩ u4).setCell ⟨g, 5, none⟩ u5).setCell ⟨g, 6, none⟩ u6).setCell ⟨g, 7, none⟩ u7) := put8 (P := fun W => Below N w W) (fun _ j u h => h.setCell (p := ⟨g, j, none⟩) hg u) h _ _ _ _ _ _ _ _ _ _ _ _ _ _ _ _
structure GS (w : World) (r8 q8 : List Value) (gb : Nat) (x : Int) (z0 : Int) (zn : Bool) (p : Option Addr) (l c : Nat) (W : World) : Prop where
  rbx : Bx W w.heap.size r8
  qbx : Bx W (w.heap.size + 1) q8
  gbx : Bx W gb [.int .i64 z0, .bool zn, .slice p l c]
  num : NumZ 0 W (.agg #[.int .i64 z0, .bool zn, .slice p l c]) x 5
  bel : Below w.heap.size w W
  gt : w.heap.size + 1 < gb
theorem GS.below {w : World} {r8 q8 : List Value} {gb : Nat} {x : Int} {z0 : Int} {zn : Bool} {p : Option Addr} {l c : Nat} {W W' : World} (h : GS w r8 q8 gb x z0 zn p l c W) (hb : Below W.heap.size W W') : GS w r8 q8 gb x z0 zn p l c W' :=
  ⟨h.rbx.below h.rbx.lt hb, h.qbx.below h.qbx.lt hb, h.gbx.below h.gbx.lt hb, h.num.below hb, h.bel.trans (hb.mono h.bel.size), h.gt⟩
theorem GS.same {w : World} {r8 q8 : List Value} {gb : Nat} {x : Int} {z0 : Int} {zn : Bool} {p : Option Addr} {l c : Nat} {W W' : World} {bx : Nat} (h : GS w r8 q8 gb x z0 zn p l c W) (hs : W.heap.size ≤ W'.heap.size) (hk : ∀ b, b < W.heap.size → b ≠ bx → W'.heap[b]? = W.heap[b]?) (hb : gb < bx) (hn : NoInt W bx) (bel : Below w.heap.size w W') : GS w r8 q8 gb x z0 zn p l c W' := by
  have hgt := h.gt
  refine ⟨?_, ?_, ?_, numZ_but h.num ⟨hs, hk, hn⟩, bel, hgt⟩
  · obtain ⟨t, e⟩ := h.rbx; exact ⟨t, by rw [hk _ h.rbx.lt (by omega)]; exact e⟩
  · obtain ⟨t, e⟩ := h.qbx; exact ⟨t, by rw [hk _ h.qbx.lt (by omega)]; exact e⟩
  · obtain ⟨t, e⟩ := h.gbx; exact ⟨t, by rw [hk _ h.gbx.lt (by omega)]; exact e⟩
theorem l1DivB_any (za zb : Value) (x y : Int) (w : World) (ha : NumZ 0 w za x 5) (hb : NumZ 0 w zb y 5) (hx : x.natAbs < 1000000000 ^ 5) (hy : y ≠ 0) :
    Calls Tryz.prog 67 #[za, zb] w fun e w' => ∃ z1 z2 q r, e = .returned (.tuple #[z1, z2]) ∧ NumZ w.heap.size w' z1 q 6 ∧ IsN 0 w' z2 r ∧ IsDiv x y q r ∧ Below w.heap.size w w' := by
  obtain ⟨na, a, h1, rfl, h3⟩ := ha
  obtain ⟨nb, b, k1, rfl, k3⟩ := hb
  refine (l1Div_any 0 _ _ na nb a b w (Nat.zero_le _) h1 k1 (by omega) (by omega) (fun e => hy (by rw [e]; cases nb <;> rfl))).mono ?_
  rintro e w' ⟨z1, z2, q, r, rfl, ⟨h4, h5⟩, h6, h7⟩
  refine ⟨z1, z2, q, r, rfl, numZ_of (N := 6) h4 ?_, h5.mono (Nat.zero_le _), h6, h7⟩
  have := div_abs h6
  have := lt56 hx
  omega
theorem But.six {W : World} {g : Nat} (h : NoInt W g) (u2 u3 u4 u5 u6 u7 : Value) : But g W ((((((W.setCell ⟨g, 2, none⟩ u2).setCell ⟨g, 3, none⟩ u3).setCell ⟨g, 4, none⟩ u4).setCell ⟨g, 5, none⟩ u5).setCell ⟨g, 6, none⟩ u6).setCell ⟨g, 7, none⟩ u7) :=
  ⟨by simp, fun b _ hb => by rw [Below.heap_setCell _ ⟨g, 7, none⟩ _ _ hb, Below.heap_setCell _ ⟨g, 6, none⟩ _ _ hb, Below.heap_setCell _ ⟨g, 5, none⟩ _ _ hb, Below.heap_setCell _ ⟨g, 4, none⟩ _ _ hb, Below.heap_setCell _ ⟨g, 3, none⟩ _ _ hb, Below.heap_setCell _ ⟨g, 2, none⟩ _ _ hb], h⟩
theorem But.eight {W : World} {g : Nat} (h : NoInt W g) (u0 u1 u2 u3 u4 u5 u6 u7 : Value) : But g W ((((((((W.setCell ⟨g, 0, none⟩ u0).setCell ⟨g, 1, none⟩ u1).setCell ⟨g, 2, none⟩ u2).setCell ⟨g, 3, none⟩ u3).setCell ⟨g, 4, none⟩ u4).setCell ⟨g, 5, none⟩ u5).setCell ⟨g, 6, none⟩ u6).setCell ⟨g, 7, none⟩ u7) :=
  ⟨by simp, fun b _ hb => by rw [Below.heap_setCell _ ⟨g, 7, none⟩ _ _ hb, Below.heap_setCell _ ⟨g, 6, none⟩ _ _ hb, Below.heap_setCell _ ⟨g, 5, none⟩ _ _ hb, Below.heap_setCell _ ⟨g, 4, none⟩ _ _ hb, Below.heap_setCell _ ⟨g, 3, none⟩ _ _ hb, Below.heap_setCell _ ⟨g, 2, none⟩ _ _ hb, Below.heap_setCell _ ⟨g, 1, none⟩ _ _ hb, Below.heap_setCell _ ⟨g, 0, none⟩ _ _ hb], h⟩
theorem bel6 {N : Nat} {w W : World} (h : Below N w W) {g : Nat} (hg : N ≤ g) (u2 u3 u4 u5 u6 u7 : Value) : Below N w ((((((W.setCell ⟨g, 2, none⟩ u2).setCell ⟨g, 3, none⟩ u3).setCell ⟨g, 4, none⟩ u4).setCell ⟨g, 5, none⟩ u5).setCell ⟨g, 6, none⟩ u6).setCell ⟨g, 7, none⟩ u7) :=
  (((((h.setCell (p := ⟨g, 2, none⟩) hg u2).setCell (p := ⟨g, 3, none⟩) hg u3).setCell (p := ⟨g, 4, none⟩) hg u4).setCell (p := ⟨g, 5, none⟩) hg u5).setCell (p := ⟨g, 6, none⟩) hg u6).setCell (p := ⟨g, 7, none⟩) hg u7
theorem q8_noInt {W : World} {g : Nat} (h : Bx W g [.slice none 0 0, .bool false, .int .i64 0, .bool false, .slice none 0 0, .int .i64 0, .bool false, .slice none 0 0]) : NoInt W g := bx_noInt h (by intro v hv x; simp at hv; rcases hv with rfl | rfl | rfl | rfl | rfl | rfl | rfl | rfl <;> simp)
theorem QRow.lt {B : Nat} {W : World} {v : Value} {Q : List (Int × Int)} (h : QRow B W v Q) {b : Nat} (hb : v.ownBlock = some b) : B ≤ b ∧ b < W.heap.size := by
  obtain ⟨xs, h1, _⟩ := h
  exact h1.lt b hb
theorem qn_num {B : Nat} {w : World} {a0 : Int} {a1 : Bool} {a2 : Option Addr} {a3 a4 : Nat} {b c d : Value} {x y : Int} (h : IsQN B w (.agg #[.int .i64 a0, .bool a1, .slice a2 a3 a4, b, c, d]) x y) : NumZ B w (.agg #[.int .i64 a0, .bool a1, .slice a2 a3 a4]) x 1000 := by
  obtain ⟨_, _, _, _, _, _, _, _, _, _, e, h1, _⟩ := h
  simp only [Value.agg.injEq, Array.mk.injEq, List.cons.injEq, and_true] at e
  obtain ⟨e0, e1, e2, -, -, -⟩ := e
  rw [← e0, ← e1, ← e2] at h1
  exact h1
set_option maxRecDepth 100000 in
set_option maxHeartbeats 4000000 in
theorem l13Tight_any (wv : Value) (Wh : List Bool) (n : Nr) (va c0 c1 c2 c3 c4 c5 : Value) (w : World) (hw : BoolsAt w wv Wh) (hq : QRow 0 w va (n.cs.map (fun x => (x, 1)))) (hz : Qz 0 w [c0, c1, c2, c3, c4, c5] n.bd 1 none) (hlen : Wh.length = n.cs.length) (h20 : n.cs.length ≤ 20) (hs : Sm5 n) :
    Calls Tryz.prog 41 #[wv, .agg #[va, .bool n.st, c0, c1, c2, c3, c4, c5]] w fun e w' => ∃ n' cs, e = .returned (.agg cs.toArray) ∧ Tight Wh n n' ∧ Rz 0 w' cs n' ∧ Below w.heap.size w w' := by
  have HW := hidG hw
  have HQ := hidG hq
  have HZ := hidG hz
  have HS := hidG hs
  have HLN := hidG hlen
  obtain ⟨pw, cw, rfl, w1, w2, w3⟩ := hw
  have HW3 := hidG w3
  obtain ⟨pa, ca, rfl⟩ := hq.form
  rw [List.length_map] at HQ
  obtain ⟨zp0, zpn, zpa, zpl, zpc, zq0, zqn, zqa, zql, zqc, e6⟩ := hz.shape
  simp only [List.cons.injEq, and_true] at e6
  obtain ⟨rfl, rfl, rfl, rfl, rfl, rfl⟩ := e6
  rw [List.length_map]
  unfold maxLen at w2
  clear hq hz hs hlen w3
  go_enter Tryz.func41, Tryz.ntmps41
  go_wp2_with fail
  obtain ⟨W2, hW2, hb2, x1, x2, hs2⟩ := box2 w [.slice pa n.cs.length ca, .bool n.st, .int .i64 zp0, .bool zpn, .slice zpa zpl zpc, .int .i64 zq0, .bool zqn, .slice zqa zql zqc] [.slice none 0 0, .bool false, .int .i64 0, .bool false, .slice none 0 0, .int .i64 0, .bool false, .slice none 0 0] 76 76
  rw [hW2]
  have HB2 := hidG hb2
  have HX1 := hidG x1
  have HX2 := hidG x2
  have HS2 := hidG hs2
  clear hW2 hb2 x1 x2 hs2
  refine (l1Small_any 0 W2 (by decide) (by decide)).mono ?_
  rintro e w3 ⟨z, rfl, hz3, hb3⟩
  obtain ⟨g0, gn, gp, gl, gc, rfl⟩ := (numZ_isN hz3).shape
  obtain ⟨W4, hW4⟩ : ∃ W4, w3.alloc (.cells #[.int .i64 g0, .bool gn, .slice gp gl gc] 72) = W4 := ⟨_, rfl⟩
  have hB4 : Below w3.heap.size w3 W4 := by rw [← hW4]; exact below_alloc _ _
  have hX4 : Bx W4 w3.heap.size [.int .i64 g0, .bool gn, .slice gp gl gc] := by rw [← hW4]; exact bx_new w3 _ _
  have HW4 := hidG hW4
  have HG0 : Hid (GS w [.slice pa n.cs.length ca, .bool n.st, .int .i64 zp0, .bool zpn, .slice zpa zpl zpc, .int .i64 zq0, .bool zqn, .slice zqa zql zqc] [.slice none 0 0, .bool false, .int .i64 0, .bool false, .slice none 0 0, .int .i64 0, .bool false, .slice none 0 0] w3.heap.size 0 g0 gn gp gl gc W4) := by
    have hb := hb3.trans (hB4.mono hb3.size)
    have hs2 := HS2.out
    have hs3 := hb3.size
    exact ⟨HX1.out.below HX1.out.lt hb, HX2.out.below HX2.out.lt hb, hX4, ((hz3.mono' (Nat.zero_le _) (by omega)).below hB4), HB2.out.trans (hb.mono HB2.out.size), by omega⟩
  have HGB : Hid (w.heap.size + 1 < w3.heap.size) := HG0.out.gt
  obtain ⟨b0, -⟩ := HG0.out.rbx.c8
  clear hW4 hB4 hX4 hz3 hb3
  go_wp2_with (rw [HW4.out])
  go_loopw [19] (fun iv wr => ∃ (k : Nat) (z0 : Int) (zn : Bool) (p : Option Addr) (l c : Nat), k ≤ n.cs.length ∧ iv = .int .i64 (k : Nat) ∧ (∀ i, i < k → Wh.getD i true = false → n.cs.getD i 0 = 0) ∧ GS w [.slice pa n.cs.length ca, .bool n.st, .int .i64 zp0, .bool zpn, .slice zpa zpl zpc, .int .i64 zq0, .bool zqn, .slice zqa zql zqc] [.slice none 0 0, .bool false, .int .i64 0, .bool false, .slice none 0 0, .int .i64 0, .bool false, .slice none 0 0] w3.heap.size (gcdK n.cs k) z0 zn p l c wr) (fun iv _ => n.cs.length - (intOf iv).toNat)
  case atStart => exact ⟨0, g0, gn, gp, gl, gc, Nat.zero_le _, rfl, fun i h => absurd h (Nat.not_lt_zero _), HG0.out⟩
  case round =>
    rename World => wo
    obtain ⟨k, z0, zn, gp', gl', gc', hk, rfl, hzz, hG⟩ := hrel
    have HG := hidG hG
    have HZZ := hidG hzz
    clear HG0 hzz b0
    by_cases hlt : k < n.cs.length
    · have hkw : k < Wh.length := by have := HLN.out; omega
      obtain ⟨bw, rfl, hbw, hAw⟩ : ∃ b, pw = some ⟨b, 0, none⟩ ∧ b < w.heap.size ∧ ∀ i (h : i < Wh.length), w.cell? ⟨b, i, none⟩ = some (.bool Wh[i]) := by
        rcases HW3.out with h | h
        · rw [h] at hkw; exact absurd hkw (Nat.not_lt_zero _)
        · exact h
      have kw := hAw k hkw
      have HWD : Hid (Wh.getD k true = Wh[k]) := by unfold Hid; rw [List.getD_eq_getElem?_getD, List.getElem?_eq_getElem hkw]; rfl
      have HCD : Hid (n.cs.getD k 0 = n.cs[k]) := by unfold Hid; rw [List.getD_eq_getElem?_getD, List.getElem?_eq_getElem hlt]; rfl
      have HC5 : Hid (n.cs[k].natAbs < 1000000000 ^ 5) := HS.out.1 _ (List.getElem_mem hlt)
      obtain ⟨gq, a0, a1, a2, a3, a4, a5, a6, a7, a8, a9, rfl, hgq, ⟨q0, q1, q2, q3, q4, q5⟩, hqn⟩ := (HQ.out.below hG.bel).at (i := k) (by rw [List.length_map]; exact hlt)
      rw [List.getElem_map] at hqn
      have HQN := hidG hqn
      obtain ⟨W1, hW1⟩ : ∃ W1, wo.alloc (.cells #[.int .i64 a0, .bool a1, .slice a2 a3 a4, .int .i64 a5, .bool a6, .slice a7 a8 a9] 74) = W1 := ⟨_, rfl⟩
      have hB1 : Below wo.heap.size wo W1 := by rw [← hW1]; exact below_alloc _ _
      have hX1 : Bx W1 wo.heap.size [.int .i64 a0, .bool a1, .slice a2 a3 a4, .int .i64 a5, .bool a6, .slice a7 a8 a9] := by rw [← hW1]; exact bx_new wo _ _
      have HW1 := hidG hW1
      have HB1 := hidG hB1
      have HX1 := hidG hX1
      have HG1 := hidG (hG.below hB1)
      have HZC := hidG (l2Zero_any 0 a0 a1 a2 a3 a4 a5 a6 a7 a8 a9 _ _ W1 (hqn.below hB1))
      obtain ⟨y0, y1, y2, y3, y4, y5⟩ := hX1.c6
      obtain ⟨Bk, hBk⟩ : ∃ B, Wh[k] = B := ⟨_, rfl⟩
      have HKW : Hid (∀ W, Below wo.heap.size wo W → W.cell? ⟨bw, k, none⟩ = some (.bool Wh[k])) := fun W hW => ((hG.bel.trans (hW.mono hG.bel.size)).cell (p := ⟨bw, k, none⟩) hbw).trans kw
      rw [hBk] at HKW HWD
      obtain ⟨xk, hxk⟩ : ∃ x, n.cs[k] = x := ⟨_, rfl⟩
      rw [hxk] at HCD HC5 HZC HQN
      have i1 : (k : Int) < (Wh.length : Int) := by omega
      have i2 : (k : Int) < (n.cs.length : Int) := by omega
      have hbwo : bw < wo.heap.size := Nat.lt_of_lt_of_le hbw hG.bel.size
      clear hAw kw hW1 hB1 hX1 hG hqn hBk hxk
      go_wp2_with (rw [HW1.out])
      refine HZC.out.mono ?_
      rintro e w6 ⟨rfl, hb6⟩
      have HB6 := hidG hb6
      have HBW6 : Hid (Below wo.heap.size wo w6) := HB1.out.trans (hb6.mono HB1.out.size)
      have HG6 := hidG (HG1.out.below hb6)
      clear hb6
      by_cases hx0 : xk = 0
      · rw [decide_eq_true hx0]
        have HNX : Hid (∀ i, i < k + 1 → Wh.getD i true = false → n.cs.getD i 0 = 0) := fun i hi h => by
          by_cases e : i = k
          · subst e; rw [HCD.out]; exact hx0
          · exact HZZ.out i (by omega) h
        have HGN : Hid (GS w [.slice (some ⟨gq, 0, none⟩) n.cs.length ca, .bool n.st, .int .i64 zp0, .bool zpn, .slice zpa zpl zpc, .int .i64 zq0, .bool zqn, .slice zqa zql zqc] [.slice none 0 0, .bool false, .int .i64 0, .bool false, .slice none 0 0, .int .i64 0, .bool false, .slice none 0 0] w3.heap.size (gcdK n.cs (k + 1)) z0 zn gp' gl' gc' w6) := by
          unfold Hid
          rw [gcdK_skip (by rw [HCD.out]; exact hx0)]
          exact HG6.out
        clear hx0
        go_wp2_with fail
        go_roundw
        case rel => exact ⟨k + 1, _, _, _, _, _, by omega, by go_num, HNX.out, HGN.out⟩
        case measure => simp [intOf]; omega
      · rw [decide_eq_false hx0]
        have HX0 := hidG hx0
        clear hx0
        have kb := HKW.out w6 HBW6.out
        have hbw6 : bw < w6.heap.size := Nat.lt_of_lt_of_le hbwo HBW6.out.size
        cases Bk with
        | false =>
          obtain ⟨r0, r1, r2, r3, r4, r5, r6, r7⟩ := HG6.out.rbx.c8
          obtain ⟨s0, s1, s2, s3, s4, s5, s6, s7⟩ := HG6.out.qbx.c8
          obtain ⟨f0, f1, f2, f3, f4, f5, f6, f7⟩ := HG6.out.qbx.f8
          go_wp2_with fail
          have hE := HG6.out.qbx.set8 (.slice (some ⟨gq, 0, none⟩) n.cs.length ca) (.bool n.st) (.int .i64 zp0) (.bool zpn) (.slice zpa zpl zpc) (.int .i64 zq0) (.bool zqn) (.slice zqa zql zqc)
          obtain ⟨e0, e1, e2, e3, e4, e5, e6, e7⟩ := hE.c8
          have hBE := bel8 HG6.out.bel (g := w.heap.size + 1) (by omega) (.slice (some ⟨gq, 0, none⟩) n.cs.length ca) (.bool n.st) (.int .i64 zp0) (.bool zpn) (.slice zpa zpl zpc) (.int .i64 zq0) (.bool zqn) (.slice zqa zql zqc)
          have hRz : Rz 0 w [.slice (some ⟨gq, 0, none⟩) n.cs.length ca, .bool n.st, .int .i64 zp0, .bool zpn, .slice zpa zpl zpc, .int .i64 zq0, .bool zqn, .slice zqa zql zqc] n := ⟨_, _, _, _, _, _, _, rfl, HQ.out, HZ.out⟩
          refine bodyPost_ret (v := .agg #[.slice (some ⟨gq, 0, none⟩) n.cs.length ca, .bool n.st, .int .i64 zp0, .bool zpn, .slice zpa zpl zpc, .int .i64 zq0, .bool zqn, .slice zqa zql zqc]) ?_ rfl ⟨n, [.slice (some ⟨gq, 0, none⟩) n.cs.length ca, .bool n.st, .int .i64 zp0, .bool zpn, .slice zpa zpl zpc, .int .i64 zq0, .bool zqn, .slice zqa zql zqc], rfl, ⟨0, .inl ⟨⟨k, hlt, HWD.out, by rw [HCD.out]; exact HX0.out⟩, rfl⟩, .inl ⟨rfl, rfl⟩⟩, hRz.below hBE, hBE⟩
          clear hE hBE hRz
          simp [results, Tryz.results41, go_sem, e0, e1, e2, e3, e4, e5, e6, e7]
        | true =>
          have HNX : Hid (∀ i, i < k + 1 → Wh.getD i true = false → n.cs.getD i 0 = 0) := fun i hi h => by
            by_cases e : i = k
            · subst e; rw [HWD.out] at h; cases h
            · exact HZZ.out i (by omega) h
          have hX6 := HX1.out.below HX1.out.lt HB6.out
          obtain ⟨y0, y1, y2, y3, y4, y5⟩ := hX6.c6
          obtain ⟨v0, v1, v2⟩ := HG6.out.gbx.c3
          have HGC : Hid (Calls Tryz.prog 65 #[.agg #[.int .i64 z0, .bool zn, .slice gp' gl' gc'], .agg #[.int .i64 a0, .bool a1, .slice a2 a3 a4]] w6 fun e w' => ∃ z, e = .returned z ∧ NumZ 0 w' z (gcdK n.cs (k + 1)) 5 ∧ Below w6.heap.size w6 w') := by
            have hn : NumZ 0 w6 (.agg #[.int .i64 a0, .bool a1, .slice a2 a3 a4]) xk 5 := by
              obtain ⟨_, _, _, _, _, _, _, _, _, _, e, h1, _⟩ := HQN.out
              simp only [Value.agg.injEq, Array.mk.injEq, List.cons.injEq, and_true] at e
              obtain ⟨e0, e1, e2, -, -, -⟩ := e
              rw [← e0, ← e1, ← e2] at h1
              exact (numZ_of (numZ_isN h1) HC5.out).below HBW6.out
            have := l1GcdN_any _ _ _ _ w6 HG6.out.num hn (gcdK_lt (by decide) HS.out.1 k (by omega)) HC5.out
            unfold Hid
            rw [show gcdK n.cs (k + 1) = gcdI (gcdK n.cs k) xk by rw [← HCD.out]; rfl]
            exact this
          clear hX6
          go_wp2_with (go_at_call 65; refine HGC.out.mono ?_; rintro e w7 ⟨z, rfl, hz7, hb7⟩; obtain ⟨h0, hn, hp, hl, hc, rfl⟩ := hz7.shape'; have HZ7 := hidG hz7; have HG7 := hidG (HG6.out.below hb7); obtain ⟨v0, v1, v2⟩ := HG7.out.gbx.c3; have f0 := HG7.out.gbx.frozen 0; have f1 := HG7.out.gbx.frozen 1; have f2 := HG7.out.gbx.frozen 2; clear hz7 hb7)
          have HGN : Hid (GS w [.slice (some ⟨gq, 0, none⟩) n.cs.length ca, .bool n.st, .int .i64 zp0, .bool zpn, .slice zpa zpl zpc, .int .i64 zq0, .bool zqn, .slice zqa zql zqc] [.slice none 0 0, .bool false, .int .i64 0, .bool false, .slice none 0 0, .int .i64 0, .bool false, .slice none 0 0] w3.heap.size (gcdK n.cs (k + 1)) h0 hn hp hl hc (((w7.setCell ⟨w3.heap.size, 0, none⟩ (.int .i64 h0)).setCell ⟨w3.heap.size, 1, none⟩ (.bool hn)).setCell ⟨w3.heap.size, 2, none⟩ (.slice hp hl hc))) := by
            have hgb := HGB.out
            refine ⟨bx_one (bx_one (bx_one HG7.out.rbx (by omega) _ _) (by omega) _ _) (by omega) _ _, bx_one (bx_one (bx_one HG7.out.qbx (by omega) _ _) (by omega) _ _) (by omega) _ _, ((HG7.out.gbx.set 0 _).set 1 _).set 2 _, numZ_but HZ7.out (But.three (bx3_noInt HG7.out.gbx) _ _ _), set3 HG7.out.bel w3.heap.size (by omega) _ _ _, hgb⟩
          go_roundw
          case rel => exact ⟨k + 1, _, _, _, _, _, by omega, by go_num, HNX.out, HGN.out⟩
          case measure => simp [intOf]; omega
    · have hke : k = n.cs.length := by omega
      rw [hke] at HG HZZ
      have HWDD : Hid (IsWD Wh n.cs (gcdK n.cs n.cs.length)) := .inr ⟨HZZ.out, rfl⟩
      obtain ⟨v0, v1, v2⟩ := hG.gbx.c3
      have HIZ := hidG (isN_zero (numZ_isN HG.out.num))
      clear hG hke HZZ
      go_wp2_with fail
      refine (l1Zero_ex _ _ _ _ _ _).mono ?_
      rintro e w6 ⟨rfl, hb6⟩
      have HG6 := hidG (HG.out.below hb6)
      rw [HIZ.out]
      clear hb6 v0 v1 v2
      by_cases h0 : gcdK n.cs n.cs.length = 0
      · rw [decide_eq_true h0]
        have H0 := hidG h0
        clear h0
        obtain ⟨r0, r1, r2, r3, r4, r5, r6, r7⟩ := HG6.out.rbx.c8
        obtain ⟨s0, s1, s2, s3, s4, s5, s6, s7⟩ := HG6.out.qbx.c8
        obtain ⟨f0, f1, f2, f3, f4, f5, f6, f7⟩ := HG6.out.qbx.f8
        go_wp2_with fail
        have hE := HG6.out.qbx.set8 (.slice pa n.cs.length ca) (.bool n.st) (.int .i64 zp0) (.bool zpn) (.slice zpa zpl zpc) (.int .i64 zq0) (.bool zqn) (.slice zqa zql zqc)
        obtain ⟨e0, e1, e2, e3, e4, e5, e6, e7⟩ := hE.c8
        have hBE := bel8 HG6.out.bel (g := w.heap.size + 1) (by omega) (.slice pa n.cs.length ca) (.bool n.st) (.int .i64 zp0) (.bool zpn) (.slice zpa zpl zpc) (.int .i64 zq0) (.bool zqn) (.slice zqa zql zqc)
        have hRz : Rz 0 w [.slice pa n.cs.length ca, .bool n.st, .int .i64 zp0, .bool zpn, .slice zpa zpl zpc, .int .i64 zq0, .bool zqn, .slice zqa zql zqc] n := ⟨_, _, _, _, _, _, _, rfl, HQ.out, HZ.out⟩
        refine bodyPost_ret (v := .agg #[.slice pa n.cs.length ca, .bool n.st, .int .i64 zp0, .bool zpn, .slice zpa zpl zpc, .int .i64 zq0, .bool zqn, .slice zqa zql zqc]) ?_ rfl ⟨n, [.slice pa n.cs.length ca, .bool n.st, .int .i64 zp0, .bool zpn, .slice zpa zpl zpc, .int .i64 zq0, .bool zqn, .slice zqa zql zqc], rfl, ⟨_, HWDD.out, .inl ⟨H0.out, rfl⟩⟩, hRz.below hBE, hBE⟩
        clear hE hBE hRz
        simp [results, Tryz.results41, go_sem, e0, e1, e2, e3, e4, e5, e6, e7]
      · rw [decide_eq_false h0]
        have H0 := hidG h0
        clear h0
        obtain ⟨wc, hwc⟩ : ∃ wc, w6.alloc (.cells #[.slice none 0 0, .bool false, .int .i64 0, .bool false, .slice none 0 0, .int .i64 0, .bool false, .slice none 0 0] 76) = wc := ⟨_, rfl⟩
        have hBc : Below w6.heap.size w6 wc := by rw [← hwc]; exact below_alloc _ _
        have hXc : Bx wc w6.heap.size (.slice none 0 0 :: [.bool false, .int .i64 0, .bool false, .slice none 0 0, .int .i64 0, .bool false, .slice none 0 0]) := by rw [← hwc]; exact bx_new w6 _ _
        have HWC := hidG hwc
        have HGc := hidG (HG6.out.below hBc)
        have HGX : Hid (w3.heap.size < w6.heap.size) := HG6.out.gbx.lt
        have HXc := hidG hXc
        have HNc : Hid (NoInt wc w6.heap.size) := bx_noInt hXc (by intro v hv x; simp at hv; rcases hv with rfl | rfl | rfl | rfl | rfl | rfl | rfl | rfl <;> simp)
        have HRS0 : Hid (RS w wc w6.heap.size (.slice none 0 0) [.bool false, .int .i64 0, .bool false, .slice none 0 0, .int .i64 0, .bool false, .slice none 0 0] [] wc) := ⟨hXc, QRow.nil _ _, fun _ _ _ => rfl, Nat.le_refl _, HGc.out.bel⟩
        obtain ⟨r0, r1, r2, r3, r4, r5, r6, r7⟩ := HG6.out.rbx.c8
        have q1 : w.heap.size < w6.heap.size := HG6.out.rbx.lt
        clear hwc hBc hXc
        go_wp2_with fail
        rw [HWC.out]
        clear r0 r1 r2 r3 r4 r5 r6 r7 q1
        go_loopw [44] (fun iv wr => ∃ (k : Nat) (vq : Value) (M : List Int), k ≤ n.cs.length ∧ iv = .int .i64 (k : Nat) ∧ M.length = k ∧ (∀ i, i < k → ∃ r, IsDiv (n.cs.getD i 0) (gcdK n.cs n.cs.length) (M.getD i 0) r) ∧ RS w wc w6.heap.size vq [.bool false, .int .i64 0, .bool false, .slice none 0 0, .int .i64 0, .bool false, .slice none 0 0] (M.map (fun x => (x, 1))) wr) (fun iv _ => n.cs.length - (intOf iv).toNat)
        case atStart => exact ⟨0, _, [], Nat.zero_le _, rfl, rfl, fun i h => absurd h (Nat.not_lt_zero _), HRS0.out⟩
        case round =>
          rename World => wi
          obtain ⟨k, vq, M, hk, rfl, hml, hmd, hR⟩ := hrel
          have HR := hidG hR
          have HML := hidG hml
          have HMD := hidG hmd
          have HGi := hidG (HGc.out.same hR.size hR.same HGX.out HNc.out hR.bel)
          clear hml hmd HRS0
          by_cases hlt2 : k < n.cs.length
          · have HCD : Hid (n.cs.getD k 0 = n.cs[k]) := by unfold Hid; rw [List.getD_eq_getElem?_getD, List.getElem?_eq_getElem hlt2]; rfl
            have HC5 : Hid (n.cs[k].natAbs < 1000000000 ^ 5) := HS.out.1 _ (List.getElem_mem hlt2)
            obtain ⟨pq, cq, rfl⟩ := hR.row.form
            have hlenk : (M.map (fun x => (x, (1 : Int)))).length = k := by rw [List.length_map]; exact HML.out
            rw [hlenk] at HR hR
            obtain ⟨gq, a0, a1, a2, a3, a4, a5, a6, a7, a8, a9, rfl, hgq, ⟨q0, q1, q2, q3, q4, q5⟩, hqn⟩ := (HQ.out.below hR.bel).at (i := k) (by rw [List.length_map]; exact hlt2)
            rw [List.getElem_map] at hqn
            obtain ⟨W1, hW1⟩ : ∃ W1, wi.alloc (.cells #[.int .i64 a0, .bool a1, .slice a2 a3 a4, .int .i64 a5, .bool a6, .slice a7 a8 a9] 74) = W1 := ⟨_, rfl⟩
            have hB1 : Below wi.heap.size wi W1 := by rw [← hW1]; exact below_alloc _ _
            have hX1 : Bx W1 wi.heap.size [.int .i64 a0, .bool a1, .slice a2 a3 a4, .int .i64 a5, .bool a6, .slice a7 a8 a9] := by rw [← hW1]; exact bx_new wi _ _
            have HW1 := hidG hW1
            have HB1 := hidG hB1
            have HG1 := hidG (HGi.out.below hB1)
            have HDV := hidG (l1DivB_any _ _ n.cs[k] _ W1 (numZ_of (numZ_isN ((qn_num hqn).below hB1)) HC5.out) HG1.out.num HC5.out H0.out)
            obtain ⟨y0, y1, y2, y3, y4, y5⟩ := hX1.c6
            obtain ⟨v0, v1, v2⟩ := HG1.out.gbx.c3
            have hk20 : k ≤ 20 := by omega
            have HOB : Hid (∀ b, (Value.slice pq k cq).ownBlock = some b → wc.heap.size ≤ b ∧ b < wi.heap.size) := fun b e => by
              obtain ⟨xs, hr, _⟩ := hR.row
              exact hr.lt b e
            have HLK := hidG hlenk
            have i2 : (k : Int) < (n.cs.length : Int) := by omega
            have hbxw : w6.heap.size < wc.heap.size := HXc.out.lt
            clear hW1 hB1 hX1 hR hqn hlenk
            go_wp2_with (rw [HW1.out])
            refine HDV.out.mono ?_
            rintro e w2 ⟨z1, z2, qk, rk, rfl, hz1, hz2, hdk, hb2⟩
            obtain ⟨h0, hn, hp, hl, hc, rfl⟩ := hz1.shape'
            obtain ⟨u0, un, up, ul, uc, rfl⟩ := hz2.shape
            obtain ⟨W3, hW3, hb3, x1, x2, hs3⟩ := box2 w2 [.int .i64 h0, .bool hn, .slice hp hl hc] [.int .i64 u0, .bool un, .slice up ul uc] 72 72
            have HW3 := hidG hW3
            have HBi3 : Hid (Below wi.heap.size wi W3) := (HB1.out.trans (hb2.mono HB1.out.size)).trans (hb3.mono (HB1.out.trans (hb2.mono HB1.out.size)).size)
            have HX3 := hidG x1
            have HZ3 : Hid (NumZ wi.heap.size W3 (.agg #[.int .i64 h0, .bool hn, .slice hp hl hc]) qk 1000) := (hz1.mono' HB1.out.size (by omega)).below hb3
            have HDK := hidG hdk
            have HRi := hidG (HR.out.box.below HR.out.box.lt HBi3.out)
            obtain ⟨m0, m1, m2⟩ := x1.c3
            have d0 := HRi.out.cell 0
            simp only [List.getElem?_cons_zero] at d0
            have q3b : w6.heap.size < W3.heap.size := HRi.out.lt
            have HOZ : Hid (∀ W, Below W3.heap.size W3 W → Calls Tryz.prog 68 #[.agg #[.int .i64 h0, .bool hn, .slice hp hl hc]] W fun e w' => ∃ z, e = .returned z ∧ IsQN wi.heap.size w' z qk 1 ∧ Below W3.heap.size W3 w') := fun W hW => by
              refine (l2OfZ_any wi.heap.size h0 hn hp hl hc qk W (Nat.le_trans HBi3.out.size hW.size) (HZ3.out.below hW)).mono ?_
              rintro e w' ⟨z, rfl, h1, h2⟩
              exact ⟨z, rfl, h1, hW.trans (h2.mono hW.size)⟩
            clear hz1 hz2 hdk hb2 hW3 hb3 x1 x2 hs3 y0 y1 y2 y3 y4 y5 v0 v1 v2
            go_wp2_with (rw [HW3.out])
            go_region_law
              (first
                | (refine step_appQ (W := w4) (base := wc.heap.size) (v := .slice pq k cq) (N := M.map (fun x => (x, (1 : Int)))) (by rfl) _ _ (by rfl) (by rfl) HROW4.out HQ4.out _ (by rfl) (by rfl) k HLK.out (by omega) HS4.out ?_; intro g5 c5 w5 hrow5 hsz5 hgr5; have HR5 := hidG hrow5; have HG5 := hidG hgr5; have hx5 := bx_grown HX4.out hgr5 HNE.out; have d1 := hx5.cell 0; have e1 := hx5.frozen 0; simp only [List.getElem?_cons_zero] at d1; have HX5 := hidG hx5; clear hrow5 hgr5 hx5)
                | (go_simp; refine (HOZ.out _ (Below.refl _ _).drew).mono ?_; rintro e w4 ⟨z, rfl, hz, hb4x⟩; have HB4 : Hid (Below W3.heap.size W3 w4) := hb4x; have HBi4 : Hid (Below wi.heap.size wi w4) := HBi3.out.trans (hb4x.mono HBi3.out.size); obtain ⟨yp0, ypn, ypa, ypl, ypc, yq0, yqn, yqa, yql, yqc, rfl, -, -⟩ := id hz; have HQ4 : Hid (Qz wc.heap.size w4 [.int .i64 yp0, .bool ypn, .slice ypa ypl ypc, .int .i64 yq0, .bool yqn, .slice yqa yql yqc] qk 1 (Value.slice pq k cq).ownBlock) := (qz_mk hz _ (fun b h1 _ h3 => Nat.lt_irrefl _ (Nat.lt_of_lt_of_le (HOB.out b h3).2 h1))).mono HR.out.size; have HROW4 : Hid (QRow wc.heap.size w4 (.slice pq k cq) (M.map (fun x => (x, (1 : Int))))) := HR.out.row.below HBi4.out; have HS4 : Hid (wc.heap.size ≤ w4.heap.size) := Nat.le_trans HR.out.size HBi4.out.size; have HX4 := hidG (HR.out.box.below HR.out.box.lt HBi4.out); have HNE : Hid ((Value.slice pq k cq).ownBlock ≠ some w6.heap.size) := fun e => Nat.lt_irrefl _ (Nat.lt_of_lt_of_le hbxw (HOB.out _ e).1); have d0 : w4.cell? ⟨w6.heap.size, 0, none⟩ = some (.slice pq k cq) := HX4.out.cell 0; have q3 : w6.heap.size < w4.heap.size := HX4.out.lt; clear hz hb4x; go_wp2_with fail))
            all_goals
              go_wp2_with fail
              refine ⟨⟨k + 1, .slice (some ⟨g5, 0, none⟩) (k + 1) c5, M ++ [qk], by omega, by go_num, by rw [List.length_append, HML.out]; rfl, fun i hi => ?_, ?_⟩, by simp [intOf]; omega⟩
              · have hml := HML.out
                by_cases e : i = k
                · subst e
                  refine ⟨rk, ?_⟩
                  rw [HCD.out, List.getD_eq_getElem?_getD (l := M ++ [qk]), List.getElem?_append_right (by omega), hml, Nat.sub_self]
                  exact HDK.out
                · obtain ⟨r, hr⟩ := HMD.out i (by omega)
                  refine ⟨r, ?_⟩
                  rw [List.getD_eq_getElem?_getD (l := M)] at hr
                  rw [List.getD_eq_getElem?_getD (l := M ++ [qk]), List.getElem?_append_left (by omega)]
                  exact hr
              · rw [List.map_append]
                have hgx := HGX.out
                have hgb := HGB.out
                refine ⟨HX5.out.set 0 _, HR5.out.low ⟨w6.heap.size, 0, none⟩ _ hbxw, fun b h1 h2 => ?_, ?_, ?_⟩
                · have h4 := HR.out.size
                  have h5 := HBi4.out.size
                  rw [Below.heap_setCell _ ⟨w6.heap.size, 0, none⟩ _ _ h2, HG5.out.block b (by omega) (fun e => by have := (HOB.out b e.symm).1; omega), HBi4.out.block b (by omega)]
                  exact HR.out.same b h1 h2
                · have h4 := HR.out.size
                  have h5 := HBi4.out.size
                  have h6 := HG5.out.size
                  simp; omega
                · have hb4 := HR.out.bel.trans (HBi4.out.mono HR.out.bel.size)
                  exact (hb4.grown HG5.out hb4.size (fun k e => by have := (HOB.out k e).1; omega)).setCell (p := ⟨w6.heap.size, 0, none⟩) (by show _ ≤ w6.heap.size; omega) _
          · have hke : k = n.cs.length := by omega
            rw [hke] at HML HMD
            obtain ⟨pq, cq, rfl⟩ := hR.row.form
            rw [List.length_map, HML.out] at HR
            have HGP : Hid (0 < gcdK n.cs n.cs.length) := by have := gcdK_pos n.cs n.cs.length; have := H0.out; unfold Hid; omega
            obtain ⟨r0, r1, r2, r3, r4, r5, r6, r7⟩ := HGi.out.rbx.c8
            obtain ⟨v0, v1, v2⟩ := HGi.out.gbx.c3
            clear hR hke
            go_wp2_with fail
            have HMK := hidG (l2Make_any 0 (.agg #[.int .i64 zp0, .bool zpn, .slice zpa zpl zpc]) (.agg #[.int .i64 z0, .bool zn, .slice gp' gl' gc']) n.bd (gcdK n.cs n.cs.length) wi (Nat.zero_le _) (qn_num (HZ.out.below HR.out.bel).isQN) (HGi.out.num.mono' (Nat.le_refl _) (by omega)) H0.out)
            refine HMK.out.mono ?_
            rintro e w7 ⟨zb, bp, bq, rfl, hzb, hlow, hb7⟩
            obtain ⟨cp0, cpn, cpa, cpl, cpc, cq0, cqn, cqa, cql, cqc, rfl, -, -⟩ := id hzb
            obtain ⟨W8, hW8⟩ : ∃ W8, w7.alloc (.cells #[.int .i64 cp0, .bool cpn, .slice cpa cpl cpc, .int .i64 cq0, .bool cqn, .slice cqa cql cqc] 74) = W8 := ⟨_, rfl⟩
            have hB8 : Below w7.heap.size w7 W8 := by rw [← hW8]; exact below_alloc _ _
            have hX8 : Bx W8 w7.heap.size [.int .i64 cp0, .bool cpn, .slice cpa cpl cpc, .int .i64 cq0, .bool cqn, .slice cqa cql cqc] := by rw [← hW8]; exact bx_new w7 _ _
            have HW8 := hidG hW8
            have HX8 := hidG hX8
            have HB8 : Hid (Below wi.heap.size wi W8) := hb7.trans (hB8.mono hb7.size)
            have HLOW := hidG hlow
            have HQ8 := hidG (hzb.below hB8)
            obtain ⟨x0, x1, x2, x3, x4, x5⟩ := hX8.c6
            clear hzb hlow hb7 hW8 hB8 hX8 r0 r1 r2 r3 r4 r5 r6 r7 v0 v1 v2
            go_wp2_with (rw [HW8.out])
            refine (l2Floor_any 0 _ bp bq W8 (Nat.zero_le _) HQ8.out (by obtain ⟨_, _, _, _, h, _⟩ := HLOW.out; omega)).mono ?_
            rintro e w10 ⟨zf, fl, rf, rfl, hzf, hdf, hb10⟩
            obtain ⟨f0, fn, fp, fll, fc, rfl⟩ := hzf.shape
            obtain ⟨W11, hW11⟩ : ∃ W11, w10.alloc (.cells #[.int .i64 f0, .bool fn, .slice fp fll fc] 72) = W11 := ⟨_, rfl⟩
            have hB11 : Below w10.heap.size w10 W11 := by rw [← hW11]; exact below_alloc _ _
            have hX11 : Bx W11 w10.heap.size [.int .i64 f0, .bool fn, .slice fp fll fc] := by rw [← hW11]; exact bx_new w10 _ _
            have HW11 := hidG hW11
            have HX11 := hidG hX11
            have HB811 : Hid (Below W8.heap.size W8 W11) := hb10.trans (hB11.mono hb10.size)
            have HB11 : Hid (Below wi.heap.size wi W11) := HB8.out.trans (HB811.out.mono HB8.out.size)
            have HDF := hidG hdf
            have HFB : Hid (fl.natAbs + 1 < 1000000000 ^ 6) := by
              unfold Hid
              have h1 := div_abs hdf
              have h2 := lt56 HS.out.2
              obtain ⟨c, hc, e1, _, _, _⟩ := HLOW.out
              have h3 : bp.natAbs ≤ n.bd.natAbs := by
                rw [e1, Int.natAbs_mul]
                exact Nat.le_mul_of_pos_right _ (by omega)
              omega
            have HNF : Hid (NumZ 0 W11 (.agg #[.int .i64 f0, .bool fn, .slice fp fll fc]) fl 6) := numZ_of (hzf.below hB11) (by have := HFB.out; omega)
            have hX8b := HX8.out.below HX8.out.lt HB811.out
            obtain ⟨x0, x1, x2, x3, x4, x5⟩ := hX8b.c6
            have HS10 : Hid (wi.heap.size ≤ w10.heap.size) := Nat.le_trans HB8.out.size hb10.size
            have HQ11 := hidG (HQ8.out.below HB811.out)
            have hg11 := HGi.out.below HB11.out
            obtain ⟨r0, r1, r2, r3, r4, r5, r6, r7⟩ := hg11.rbx.c8
            clear hzf hdf hb10 hW11 hB11 hX11 hX8b hg11
            cases hst : n.st with
            | false =>
              rw [hst] at r1
              have HTD : Hid (∃ r', IsDiv (n.bd - if n.st = true then 1 else 0) (gcdK n.cs n.cs.length) fl r') := by
                obtain ⟨r', h⟩ := floor_tight n.st HGP.out HLOW.out HDF.out
                rw [hst] at h ⊢
                simp only [Bool.false_and, Bool.false_eq_true, if_false, Int.sub_zero] at h ⊢
                exact ⟨r', h⟩
              clear hst
              obtain ⟨k0, k1, k2⟩ := HX11.out.c3
              go_wp2_with (rw [HW11.out])
              obtain ⟨t0, t1, t2⟩ := HX11.out.c3
              have HOZ : Hid (Calls Tryz.prog 68 #[.agg #[.int .i64 f0, .bool fn, .slice fp fll fc]] W11 fun e w' => ∃ z, e = .returned z ∧ IsQN 0 w' z (fl) 1 ∧ Below W11.heap.size W11 w') := l2OfZ_any 0 f0 fn fp fll fc _ W11 (Nat.zero_le _) (HNF.out.mono' (Nat.le_refl _) (by omega))
              go_wp2_with fail
              refine HOZ.out.mono ?_
              rintro e w9 ⟨z, rfl, hz9, hb9⟩
              obtain ⟨yp0, ypn, ypa, ypl, ypc, yq0, yqn, yqa, yql, yqc, rfl, -, -⟩ := id hz9
              have HB9 : Hid (Below wi.heap.size wi w9) := HB11.out.trans (hb9.mono HB11.out.size)
              have HXO := hidG (HR.out.box.below HR.out.box.lt HB9.out)
              have HG9 := hidG (HGi.out.below HB9.out)
              have HROW9 := hidG (HR.out.row.below HB9.out)
              have HZ9 := hidG (qz_mk hz9 none (fun b _ _ h => by cases h))
              obtain ⟨WE, hWE⟩ : ∃ WE, (((((w9.setCell ⟨w6.heap.size, 2, none⟩ (.int .i64 yp0)).setCell ⟨w6.heap.size, 3, none⟩ (.bool ypn)).setCell ⟨w6.heap.size, 4, none⟩ (.slice ypa ypl ypc)).setCell ⟨w6.heap.size, 5, none⟩ (.int .i64 yq0)).setCell ⟨w6.heap.size, 6, none⟩ (.bool yqn)).setCell ⟨w6.heap.size, 7, none⟩ (.slice yqa yql yqc) = WE := ⟨_, rfl⟩
              have hgx := HGX.out
              have hgb := HGB.out
              have HXE : Hid (Bx WE w6.heap.size [.slice pq n.cs.length cq, .bool false, .int .i64 yp0, .bool ypn, .slice ypa ypl ypc, .int .i64 yq0, .bool yqn, .slice yqa yql yqc]) := by unfold Hid; rw [← hWE]; exact (((((HXO.out.set 2 _).set 3 _).set 4 _).set 5 _).set 6 _).set 7 _
              have hq9 : Bx w9 (w.heap.size + 1) [.slice none 0 0, .bool false, .int .i64 0, .bool false, .slice none 0 0, .int .i64 0, .bool false, .slice none 0 0] := HG9.out.qbx
              have HQE : Hid (Bx WE (w.heap.size + 1) [.slice none 0 0, .bool false, .int .i64 0, .bool false, .slice none 0 0, .int .i64 0, .bool false, .slice none 0 0]) := by unfold Hid; rw [← hWE]; exact bx_one (bx_one (bx_one (bx_one (bx_one (bx_one hq9 (by omega) _ _) (by omega) _ _) (by omega) _ _) (by omega) _ _) (by omega) _ _) (by omega) _ _
              have HBu : Hid (But w6.heap.size w9 WE) := by unfold Hid; rw [← hWE]; exact But.six (bx_noInt HXO.out (by intro v hv x; simp at hv; rcases hv with rfl | rfl | rfl | rfl | rfl | rfl | rfl | rfl <;> simp)) _ _ _ _ _ _
              have HBE : Hid (Below w.heap.size w WE) := by unfold Hid; rw [← hWE]; exact bel6 HG9.out.bel (by omega) _ _ _ _ _ _
              have HRE : Hid (QRow wc.heap.size WE (.slice pq n.cs.length cq) (M.map (fun x => (x, 1)))) := HROW9.out.but HBu.out (fun e => by have := (HROW9.out.lt e).1; have := HXc.out.lt; omega)
              have HZE : Hid (Qz 0 WE [.int .i64 yp0, .bool ypn, .slice ypa ypl ypc, .int .i64 yq0, .bool yqn, .slice yqa yql yqc] (fl) 1 none) := HZ9.out.but HBu.out
              obtain ⟨o0, o1, o2, o3, o4, o5, o6, o7⟩ := HXO.out.c8
              obtain ⟨j0, j1, j2, j3, j4, j5, j6, j7⟩ := HXO.out.f8
              obtain ⟨l0, l1, l2, l3, l4, l5, l6, l7⟩ := HXE.out.c8
              obtain ⟨s0, s1, s2, s3, s4, s5, s6, s7⟩ := HQE.out.c8
              obtain ⟨f0, f1, f2, f3, f4, f5, f6, f7⟩ := HQE.out.f8
              have HWE := hidG hWE
              clear hWE hz9 hb9 hq9 t0 t1 t2
              go_wp2_with (rw [HWE.out])
              have hE := HQE.out.set8 (.slice pq n.cs.length cq) (.bool false) (.int .i64 yp0) (.bool ypn) (.slice ypa ypl ypc) (.int .i64 yq0) (.bool yqn) (.slice yqa yql yqc)
              obtain ⟨e0, e1, e2, e3, e4, e5, e6, e7⟩ := hE.c8
              have hBF := bel8 HBE.out (g := w.heap.size + 1) (by omega) (.slice pq n.cs.length cq) (.bool false) (.int .i64 yp0) (.bool ypn) (.slice ypa ypl ypc) (.int .i64 yq0) (.bool yqn) (.slice yqa yql yqc)
              have hBu2 := But.eight (q8_noInt HQE.out) (.slice pq n.cs.length cq) (.bool false) (.int .i64 yp0) (.bool ypn) (.slice ypa ypl ypc) (.int .i64 yq0) (.bool yqn) (.slice yqa yql yqc)
              have hRz : Rz 0 ((((((((WE.setCell ⟨w.heap.size + 1, 0, none⟩ (.slice pq n.cs.length cq)).setCell ⟨w.heap.size + 1, 1, none⟩ (.bool false)).setCell ⟨w.heap.size + 1, 2, none⟩ (.int .i64 yp0)).setCell ⟨w.heap.size + 1, 3, none⟩ (.bool ypn)).setCell ⟨w.heap.size + 1, 4, none⟩ (.slice ypa ypl ypc)).setCell ⟨w.heap.size + 1, 5, none⟩ (.int .i64 yq0)).setCell ⟨w.heap.size + 1, 6, none⟩ (.bool yqn)).setCell ⟨w.heap.size + 1, 7, none⟩ (.slice yqa yql yqc)) [.slice pq n.cs.length cq, .bool false, .int .i64 yp0, .bool ypn, .slice ypa ypl ypc, .int .i64 yq0, .bool yqn, .slice yqa yql yqc] ⟨M, false, fl⟩ := ⟨_, _, _, _, _, _, _, rfl, (HRE.out.but hBu2 (fun e => by have := (HRE.out.lt e).1; have := HXc.out.lt; omega)).mono (Nat.zero_le _), HZE.out.but hBu2⟩
              have hTT : Tight Wh n ⟨M, false, fl⟩ := ⟨_, HWDD.out, .inr ⟨H0.out, rfl, HML.out, HMD.out, HTD.out⟩⟩
              refine bodyPost_ret (v := .agg #[.slice pq n.cs.length cq, .bool false, .int .i64 yp0, .bool ypn, .slice ypa ypl ypc, .int .i64 yq0, .bool yqn, .slice yqa yql yqc]) ?_ rfl ⟨⟨M, false, fl⟩, [.slice pq n.cs.length cq, .bool false, .int .i64 yp0, .bool ypn, .slice ypa ypl ypc, .int .i64 yq0, .bool yqn, .slice yqa yql yqc], rfl, hTT, hRz, hBF⟩
              clear hE hBF hBu2 hRz
              simp [results, Tryz.results41, go_sem, e0, e1, e2, e3, e4, e5, e6, e7]
            | true =>
              rw [hst] at r1
              have HWH := hidG (l2Whole_any 0 _ bp bq W11 (Nat.zero_le _) HQ11.out)
              by_cases hq1 : bq = 1
              · have HTD : Hid (∃ r', IsDiv (n.bd - if n.st = true then 1 else 0) (gcdK n.cs n.cs.length) (fl - 1) r') := by
                  obtain ⟨r', h⟩ := floor_tight n.st HGP.out HLOW.out HDF.out
                  rw [hst] at h ⊢
                  simp only [Bool.true_and, if_true, decide_eq_true_eq, if_pos hq1] at h ⊢
                  exact ⟨r', h⟩
                have hdq : decide (bq = 1) = true := decide_eq_true hq1
                rw [hdq] at HWH
                clear hst hq1 hdq
                go_wp2_with (first | (rw [HW11.out]) | (go_at_call 61; refine HWH.out.mono ?_; rintro e w12 ⟨rfl, hb12⟩; have HB12 := hidG hb12; clear hb12))
                have HB12i : Hid (Below wi.heap.size wi w12) := HB11.out.trans (HB12.out.mono HB11.out.size)
                have HX12 := hidG (HX11.out.below HX11.out.lt HB12.out)
                have HN12 := hidG (HNF.out.below HB12.out)
                have HCF : Hid (∀ W, Below w12.heap.size w12 W → (W.cell? ⟨w10.heap.size, 0, none⟩ = some (.int .i64 f0) ∧ W.cell? ⟨w10.heap.size, 1, none⟩ = some (.bool fn) ∧ W.cell? ⟨w10.heap.size, 2, none⟩ = some (.slice fp fll fc)) ∧ W.frozen? ⟨w10.heap.size, 0, none⟩ = false ∧ W.frozen? ⟨w10.heap.size, 1, none⟩ = false ∧ W.frozen? ⟨w10.heap.size, 2, none⟩ = false) := fun W hW => by
                  have h2 := HX12.out.below HX12.out.lt hW
                  exact ⟨h2.c3, h2.frozen 0, h2.frozen 1, h2.frozen 2⟩
                have HSM : Hid (∀ W, Below w12.heap.size w12 W → Calls Tryz.prog 63 #[.int .i64 1] W fun e w' => ∃ z, e = .returned z ∧ NumZ 0 w' z 1 3 ∧ Below w12.heap.size w12 w') := fun W hW => by
                  refine (l1Small_any 1 W (by decide) (by decide)).mono ?_
                  rintro e w' ⟨z, rfl, h1, h2⟩
                  exact ⟨z, rfl, h1.mono' (Nat.zero_le _) (Nat.le_refl _), hW.trans (h2.mono hW.size)⟩
                have HSB : Hid (∀ W z, Below w12.heap.size w12 W → NumZ 0 W z 1 3 → Calls Tryz.prog 71 #[.agg #[.int .i64 f0, .bool fn, .slice fp fll fc], z] W fun e w' => ∃ z', e = .returned z' ∧ NumZ 0 w' z' (fl - 1) 6 ∧ Below w12.heap.size w12 w') := fun W z hW hz => by
                  obtain ⟨n1, t1, k1, k2, k3⟩ := HN12.out.below hW
                  obtain ⟨n2, t2, k4, k5, k6⟩ := hz
                  refine (l1Sub_any 0 _ _ n1 n2 t1 t2 W (Nat.zero_le _) k1 k4 (by omega) (by omega)).mono ?_
                  rintro e w' ⟨z', rfl, h1, h2⟩
                  rw [k2, k5] at h1
                  exact ⟨z', rfl, numZ_of (h1.mono (Nat.zero_le _)) (by have := HFB.out; omega), hW.trans (h2.mono hW.size)⟩
                obtain ⟨⟨m0, m1, m2⟩, m3, m4, m5⟩ := HCF.out w12 (Below.refl _ _)
                go_region_with (first
                  | (go_at_call 63; refine (HSM.out _ (Below.refl _ _).drew).mono ?_; rintro e wa ⟨za, rfl, hza, hba⟩; obtain ⟨b0, bn, bpp, bl, bc, rfl⟩ := hza.shape'; have HZA := hidG hza; have HBA := hidG hba; obtain ⟨⟨m0, m1, m2⟩, m3, m4, m5⟩ := HCF.out wa hba; clear hza hba)
                  | (go_at_call 71; refine (HSB.out _ _ HBA.out HZA.out).mono ?_; rintro e wb ⟨zb, rfl, hzb, hbb⟩; obtain ⟨d0, dn, dp, dl, dc, rfl⟩ := hzb.shape'; have HZB := hidG hzb; have HBB := hidG hbb; obtain ⟨⟨m0, m1, m2⟩, m3, m4, m5⟩ := HCF.out wb hbb; clear hzb hbb))
                all_goals
                  go_wp2_with fail
                  obtain ⟨WC, hWC⟩ : ∃ WC, ((wb.setCell ⟨w10.heap.size, 0, none⟩ (.int .i64 d0)).setCell ⟨w10.heap.size, 1, none⟩ (.bool dn)).setCell ⟨w10.heap.size, 2, none⟩ (.slice dp dl dc) = WC := ⟨_, rfl⟩
                  have hxb := HX12.out.below HX12.out.lt HBB.out
                  have HXC : Hid (Bx WC w10.heap.size [.int .i64 d0, .bool dn, .slice dp dl dc]) := by unfold Hid; rw [← hWC]; exact ((hxb.set 0 _).set 1 _).set 2 _
                  have HNC : Hid (NumZ 0 WC (.agg #[.int .i64 d0, .bool dn, .slice dp dl dc]) (fl - 1) 6) := by unfold Hid; rw [← hWC]; exact numZ_but HZB.out (But.three (bx3_noInt hxb) _ _ _)
                  have HBC : Hid (Below wi.heap.size wi WC) := by unfold Hid; rw [← hWC]; exact set3 (HB12i.out.trans (HBB.out.mono HB12i.out.size)) w10.heap.size HS10.out _ _ _
                  rw [hWC]
                  clear hWC hxb m0 m1 m2 m3 m4 m5
                  obtain ⟨t0, t1, t2⟩ := HXC.out.c3
                  have HOZ : Hid (Calls Tryz.prog 68 #[.agg #[.int .i64 d0, .bool dn, .slice dp dl dc]] WC fun e w' => ∃ z, e = .returned z ∧ IsQN 0 w' z (fl - 1) 1 ∧ Below WC.heap.size WC w') := l2OfZ_any 0 d0 dn dp dl dc _ WC (Nat.zero_le _) (HNC.out.mono' (Nat.le_refl _) (by omega))
                  go_wp2_with fail
                  refine HOZ.out.mono ?_
                  rintro e w9 ⟨z, rfl, hz9, hb9⟩
                  obtain ⟨yp0, ypn, ypa, ypl, ypc, yq0, yqn, yqa, yql, yqc, rfl, -, -⟩ := id hz9
                  have HB9 : Hid (Below wi.heap.size wi w9) := HBC.out.trans (hb9.mono HBC.out.size)
                  have HXO := hidG (HR.out.box.below HR.out.box.lt HB9.out)
                  have HG9 := hidG (HGi.out.below HB9.out)
                  have HROW9 := hidG (HR.out.row.below HB9.out)
                  have HZ9 := hidG (qz_mk hz9 none (fun b _ _ h => by cases h))
                  obtain ⟨WE, hWE⟩ : ∃ WE, (((((w9.setCell ⟨w6.heap.size, 2, none⟩ (.int .i64 yp0)).setCell ⟨w6.heap.size, 3, none⟩ (.bool ypn)).setCell ⟨w6.heap.size, 4, none⟩ (.slice ypa ypl ypc)).setCell ⟨w6.heap.size, 5, none⟩ (.int .i64 yq0)).setCell ⟨w6.heap.size, 6, none⟩ (.bool yqn)).setCell ⟨w6.heap.size, 7, none⟩ (.slice yqa yql yqc) = WE := ⟨_, rfl⟩
                  have hgx := HGX.out
                  have hgb := HGB.out
                  have HXE : Hid (Bx WE w6.heap.size [.slice pq n.cs.length cq, .bool false, .int .i64 yp0, .bool ypn, .slice ypa ypl ypc, .int .i64 yq0, .bool yqn, .slice yqa yql yqc]) := by unfold Hid; rw [← hWE]; exact (((((HXO.out.set 2 _).set 3 _).set 4 _).set 5 _).set 6 _).set 7 _
                  have hq9 : Bx w9 (w.heap.size + 1) [.slice none 0 0, .bool false, .int .i64 0, .bool false, .slice none 0 0, .int .i64 0, .bool false, .slice none 0 0] := HG9.out.qbx
                  have HQE : Hid (Bx WE (w.heap.size + 1) [.slice none 0 0, .bool false, .int .i64 0, .bool false, .slice none 0 0, .int .i64 0, .bool false, .slice none 0 0]) := by unfold Hid; rw [← hWE]; exact bx_one (bx_one (bx_one (bx_one (bx_one (bx_one hq9 (by omega) _ _) (by omega) _ _) (by omega) _ _) (by omega) _ _) (by omega) _ _) (by omega) _ _
                  have HBu : Hid (But w6.heap.size w9 WE) := by unfold Hid; rw [← hWE]; exact But.six (bx_noInt HXO.out (by intro v hv x; simp at hv; rcases hv with rfl | rfl | rfl | rfl | rfl | rfl | rfl | rfl <;> simp)) _ _ _ _ _ _
                  have HBE : Hid (Below w.heap.size w WE) := by unfold Hid; rw [← hWE]; exact bel6 HG9.out.bel (by omega) _ _ _ _ _ _
                  have HRE : Hid (QRow wc.heap.size WE (.slice pq n.cs.length cq) (M.map (fun x => (x, 1)))) := HROW9.out.but HBu.out (fun e => by have := (HROW9.out.lt e).1; have := HXc.out.lt; omega)
                  have HZE : Hid (Qz 0 WE [.int .i64 yp0, .bool ypn, .slice ypa ypl ypc, .int .i64 yq0, .bool yqn, .slice yqa yql yqc] (fl - 1) 1 none) := HZ9.out.but HBu.out
                  obtain ⟨o0, o1, o2, o3, o4, o5, o6, o7⟩ := HXO.out.c8
                  obtain ⟨j0, j1, j2, j3, j4, j5, j6, j7⟩ := HXO.out.f8
                  obtain ⟨l0, l1, l2, l3, l4, l5, l6, l7⟩ := HXE.out.c8
                  obtain ⟨s0, s1, s2, s3, s4, s5, s6, s7⟩ := HQE.out.c8
                  obtain ⟨f0, f1, f2, f3, f4, f5, f6, f7⟩ := HQE.out.f8
                  have HWE := hidG hWE
                  clear hWE hz9 hb9 hq9 t0 t1 t2
                  go_wp2_with (rw [HWE.out])
                  have hE := HQE.out.set8 (.slice pq n.cs.length cq) (.bool false) (.int .i64 yp0) (.bool ypn) (.slice ypa ypl ypc) (.int .i64 yq0) (.bool yqn) (.slice yqa yql yqc)
                  obtain ⟨e0, e1, e2, e3, e4, e5, e6, e7⟩ := hE.c8
                  have hBF := bel8 HBE.out (g := w.heap.size + 1) (by omega) (.slice pq n.cs.length cq) (.bool false) (.int .i64 yp0) (.bool ypn) (.slice ypa ypl ypc) (.int .i64 yq0) (.bool yqn) (.slice yqa yql yqc)
                  have hBu2 := But.eight (q8_noInt HQE.out) (.slice pq n.cs.length cq) (.bool false) (.int .i64 yp0) (.bool ypn) (.slice ypa ypl ypc) (.int .i64 yq0) (.bool yqn) (.slice yqa yql yqc)
                  have hRz : Rz 0 ((((((((WE.setCell ⟨w.heap.size + 1, 0, none⟩ (.slice pq n.cs.length cq)).setCell ⟨w.heap.size + 1, 1, none⟩ (.bool false)).setCell ⟨w.heap.size + 1, 2, none⟩ (.int .i64 yp0)).setCell ⟨w.heap.size + 1, 3, none⟩ (.bool ypn)).setCell ⟨w.heap.size + 1, 4, none⟩ (.slice ypa ypl ypc)).setCell ⟨w.heap.size + 1, 5, none⟩ (.int .i64 yq0)).setCell ⟨w.heap.size + 1, 6, none⟩ (.bool yqn)).setCell ⟨w.heap.size + 1, 7, none⟩ (.slice yqa yql yqc)) [.slice pq n.cs.length cq, .bool false, .int .i64 yp0, .bool ypn, .slice ypa ypl ypc, .int .i64 yq0, .bool yqn, .slice yqa yql yqc] ⟨M, false, fl - 1⟩ := ⟨_, _, _, _, _, _, _, rfl, (HRE.out.but hBu2 (fun e => by have := (HRE.out.lt e).1; have := HXc.out.lt; omega)).mono (Nat.zero_le _), HZE.out.but hBu2⟩
                  have hTT : Tight Wh n ⟨M, false, fl - 1⟩ := ⟨_, HWDD.out, .inr ⟨H0.out, rfl, HML.out, HMD.out, HTD.out⟩⟩
                  refine bodyPost_ret (v := .agg #[.slice pq n.cs.length cq, .bool false, .int .i64 yp0, .bool ypn, .slice ypa ypl ypc, .int .i64 yq0, .bool yqn, .slice yqa yql yqc]) ?_ rfl ⟨⟨M, false, fl - 1⟩, [.slice pq n.cs.length cq, .bool false, .int .i64 yp0, .bool ypn, .slice ypa ypl ypc, .int .i64 yq0, .bool yqn, .slice yqa yql yqc], rfl, hTT, hRz, hBF⟩
                  clear hE hBF hBu2 hRz
                  simp [results, Tryz.results41, go_sem, e0, e1, e2, e3, e4, e5, e6, e7]
              · have HTD : Hid (∃ r', IsDiv (n.bd - if n.st = true then 1 else 0) (gcdK n.cs n.cs.length) fl r') := by
                  obtain ⟨r', h⟩ := floor_tight n.st HGP.out HLOW.out HDF.out
                  rw [hst] at h ⊢
                  simp only [Bool.true_and, if_true, decide_eq_true_eq, if_neg hq1, Int.sub_zero] at h ⊢
                  exact ⟨r', h⟩
                have hdq : decide (bq = 1) = false := decide_eq_false hq1
                rw [hdq] at HWH
                clear hst hq1 hdq
                go_wp2_with (first | (rw [HW11.out]) | (go_at_call 61; refine HWH.out.mono ?_; rintro e w12 ⟨rfl, hb12⟩; have HB12 := hidG hb12; have HX12 := hidG (HX11.out.below HX11.out.lt hb12); obtain ⟨k0, k1, k2⟩ := HX12.out.c3; clear hb12))
                have HB12i : Hid (Below wi.heap.size wi w12) := HB11.out.trans (HB12.out.mono HB11.out.size)
                have HN12 := hidG (HNF.out.below HB12.out)
                obtain ⟨t0, t1, t2⟩ := HX12.out.c3
                have HOZ : Hid (Calls Tryz.prog 68 #[.agg #[.int .i64 f0, .bool fn, .slice fp fll fc]] w12 fun e w' => ∃ z, e = .returned z ∧ IsQN 0 w' z (fl) 1 ∧ Below w12.heap.size w12 w') := l2OfZ_any 0 f0 fn fp fll fc _ w12 (Nat.zero_le _) (HN12.out.mono' (Nat.le_refl _) (by omega))
                go_wp2_with fail
                refine HOZ.out.mono ?_
                rintro e w9 ⟨z, rfl, hz9, hb9⟩
                obtain ⟨yp0, ypn, ypa, ypl, ypc, yq0, yqn, yqa, yql, yqc, rfl, -, -⟩ := id hz9
                have HB9 : Hid (Below wi.heap.size wi w9) := HB12i.out.trans (hb9.mono HB12i.out.size)
                have HXO := hidG (HR.out.box.below HR.out.box.lt HB9.out)
                have HG9 := hidG (HGi.out.below HB9.out)
                have HROW9 := hidG (HR.out.row.below HB9.out)
                have HZ9 := hidG (qz_mk hz9 none (fun b _ _ h => by cases h))
                obtain ⟨WE, hWE⟩ : ∃ WE, (((((w9.setCell ⟨w6.heap.size, 2, none⟩ (.int .i64 yp0)).setCell ⟨w6.heap.size, 3, none⟩ (.bool ypn)).setCell ⟨w6.heap.size, 4, none⟩ (.slice ypa ypl ypc)).setCell ⟨w6.heap.size, 5, none⟩ (.int .i64 yq0)).setCell ⟨w6.heap.size, 6, none⟩ (.bool yqn)).setCell ⟨w6.heap.size, 7, none⟩ (.slice yqa yql yqc) = WE := ⟨_, rfl⟩
                have hgx := HGX.out
                have hgb := HGB.out
                have HXE : Hid (Bx WE w6.heap.size [.slice pq n.cs.length cq, .bool false, .int .i64 yp0, .bool ypn, .slice ypa ypl ypc, .int .i64 yq0, .bool yqn, .slice yqa yql yqc]) := by unfold Hid; rw [← hWE]; exact (((((HXO.out.set 2 _).set 3 _).set 4 _).set 5 _).set 6 _).set 7 _
                have hq9 : Bx w9 (w.heap.size + 1) [.slice none 0 0, .bool false, .int .i64 0, .bool false, .slice none 0 0, .int .i64 0, .bool false, .slice none 0 0] := HG9.out.qbx
                have HQE : Hid (Bx WE (w.heap.size + 1) [.slice none 0 0, .bool false, .int .i64 0, .bool false, .slice none 0 0, .int .i64 0, .bool false, .slice none 0 0]) := by unfold Hid; rw [← hWE]; exact bx_one (bx_one (bx_one (bx_one (bx_one (bx_one hq9 (by omega) _ _) (by omega) _ _) (by omega) _ _) (by omega) _ _) (by omega) _ _) (by omega) _ _
                have HBu : Hid (But w6.heap.size w9 WE) := by unfold Hid; rw [← hWE]; exact But.six (bx_noInt HXO.out (by intro v hv x; simp at hv; rcases hv with rfl | rfl | rfl | rfl | rfl | rfl | rfl | rfl <;> simp)) _ _ _ _ _ _
                have HBE : Hid (Below w.heap.size w WE) := by unfold Hid; rw [← hWE]; exact bel6 HG9.out.bel (by omega) _ _ _ _ _ _
                have HRE : Hid (QRow wc.heap.size WE (.slice pq n.cs.length cq) (M.map (fun x => (x, 1)))) := HROW9.out.but HBu.out (fun e => by have := (HROW9.out.lt e).1; have := HXc.out.lt; omega)
                have HZE : Hid (Qz 0 WE [.int .i64 yp0, .bool ypn, .slice ypa ypl ypc, .int .i64 yq0, .bool yqn, .slice yqa yql yqc] (fl) 1 none) := HZ9.out.but HBu.out
                obtain ⟨o0, o1, o2, o3, o4, o5, o6, o7⟩ := HXO.out.c8
                obtain ⟨j0, j1, j2, j3, j4, j5, j6, j7⟩ := HXO.out.f8
                obtain ⟨l0, l1, l2, l3, l4, l5, l6, l7⟩ := HXE.out.c8
                obtain ⟨s0, s1, s2, s3, s4, s5, s6, s7⟩ := HQE.out.c8
                obtain ⟨f0, f1, f2, f3, f4, f5, f6, f7⟩ := HQE.out.f8
                have HWE := hidG hWE
                clear hWE hz9 hb9 hq9 t0 t1 t2
                go_wp2_with (rw [HWE.out])
                have hE := HQE.out.set8 (.slice pq n.cs.length cq) (.bool false) (.int .i64 yp0) (.bool ypn) (.slice ypa ypl ypc) (.int .i64 yq0) (.bool yqn) (.slice yqa yql yqc)
                obtain ⟨e0, e1, e2, e3, e4, e5, e6, e7⟩ := hE.c8
                have hBF := bel8 HBE.out (g := w.heap.size + 1) (by omega) (.slice pq n.cs.length cq) (.bool false) (.int .i64 yp0) (.bool ypn) (.slice ypa ypl ypc) (.int .i64 yq0) (.bool yqn) (.slice yqa yql yqc)
                have hBu2 := But.eight (q8_noInt HQE.out) (.slice pq n.cs.length cq) (.bool false) (.int .i64 yp0) (.bool ypn) (.slice ypa ypl ypc) (.int .i64 yq0) (.bool yqn) (.slice yqa yql yqc)
                have hRz : Rz 0 ((((((((WE.setCell ⟨w.heap.size + 1, 0, none⟩ (.slice pq n.cs.length cq)).setCell ⟨w.heap.size + 1, 1, none⟩ (.bool false)).setCell ⟨w.heap.size + 1, 2, none⟩ (.int .i64 yp0)).setCell ⟨w.heap.size + 1, 3, none⟩ (.bool ypn)).setCell ⟨w.heap.size + 1, 4, none⟩ (.slice ypa ypl ypc)).setCell ⟨w.heap.size + 1, 5, none⟩ (.int .i64 yq0)).setCell ⟨w.heap.size + 1, 6, none⟩ (.bool yqn)).setCell ⟨w.heap.size + 1, 7, none⟩ (.slice yqa yql yqc)) [.slice pq n.cs.length cq, .bool false, .int .i64 yp0, .bool ypn, .slice ypa ypl ypc, .int .i64 yq0, .bool yqn, .slice yqa yql yqc] ⟨M, false, fl⟩ := ⟨_, _, _, _, _, _, _, rfl, (HRE.out.but hBu2 (fun e => by have := (HRE.out.lt e).1; have := HXc.out.lt; omega)).mono (Nat.zero_le _), HZE.out.but hBu2⟩
                have hTT : Tight Wh n ⟨M, false, fl⟩ := ⟨_, HWDD.out, .inr ⟨H0.out, rfl, HML.out, HMD.out, HTD.out⟩⟩
                refine bodyPost_ret (v := .agg #[.slice pq n.cs.length cq, .bool false, .int .i64 yp0, .bool ypn, .slice ypa ypl ypc, .int .i64 yq0, .bool yqn, .slice yqa yql yqc]) ?_ rfl ⟨⟨M, false, fl⟩, [.slice pq n.cs.length cq, .bool false, .int .i64 yp0, .bool ypn, .slice ypa ypl ypc, .int .i64 yq0, .bool yqn, .slice yqa yql yqc], rfl, hTT, hRz, hBF⟩
                clear hE hBF hBu2 hRz
                simp [results, Tryz.results41, go_sem, e0, e1, e2, e3, e4, e5, e6, e7]
end Go.Proofs.YtebldkelihmihaaGreatDoor.L
