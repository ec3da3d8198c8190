import Derived.Test.YtknfmkeipeikkaaGreatDoorTtPQ
import Derived.Test.YtknfmkeipeikkaaGreatDoorQQp
namespace Go.Proofs.YtknfmkeipeikkaaGreatDoor.L
open Go.ChangeShapes Go.WideShapes Go.ChangeAt Go.RowKit
theorem ordI_three (x y : Int) : ordI x y = -1 ∨ ordI x y = 0 ∨ ordI x y = 1 := by
  unfold ordI
  split
  · exact .inl rfl
  · split
    · exact .inr (.inr rfl)
    · exact .inr (.inl rfl)
theorem ansN_all (G : List Nr) (N : List Int) (D : Int) : ansN G N D = G.all (metN N D) := rfl
theorem low_abs {x y n d : Int} (h : IsLow x y n d) : n.natAbs ≤ x.natAbs ∧ d.natAbs ≤ y.natAbs := by
  obtain ⟨c, c0, rfl, rfl, _⟩ := h
  exact ⟨abs_le_mul n c c0, abs_le_mul d c c0⟩
theorem low_pos {x y n d : Int} (h : IsLow x y n d) : 0 < d := by
  obtain ⟨c, _, _, _, h, _⟩ := h
  exact h
theorem low_step {a x y u v p q p' q' S D n : Int} (hD : p * D = q * S) (h1 : IsLow (a * x) (1 * y) u v) (h2 : IsLow (p * v + u * q) (q * v) p' q') (hn : n * y = x * D) : p' * D = q' * (S + a * n) := by
  obtain ⟨c, c0, e1, e2, _, _⟩ := h1
  obtain ⟨d, d0, e3, e4, _, _⟩ := h2
  have e5 : u * D = v * (a * n) := by
    refine Int.eq_of_mul_eq_mul_right c0 ?_
    have : u * D * c = (u * c) * D := by rw [Int.mul_right_comm]
    rw [this, ← e1, Int.mul_right_comm v, ← e2, Int.one_mul, Int.mul_assoc a x D, ← hn, Int.mul_comm y, Int.mul_assoc]
  refine Int.eq_of_mul_eq_mul_right d0 ?_
  have l1 : p' * D * d = (p' * d) * D := by rw [Int.mul_right_comm]
  have l2 : q' * (S + a * n) * d = (q' * d) * (S + a * n) := by rw [Int.mul_right_comm]
  rw [l1, l2, ← e3, ← e4, Int.add_mul, Int.mul_add]
  have l3 : p * v * D = q * v * S := by rw [Int.mul_right_comm, hD, Int.mul_right_comm]
  have l4 : u * q * D = q * v * (a * n) := by rw [Int.mul_right_comm, e5, Int.mul_comm, Int.mul_assoc]
  rw [l3, l4]
theorem qn0 {B : Nat} {W : World} {z : Value} {x y : Int} (h : IsQN B W z x y) : IsQN 0 W z x y := by
  obtain ⟨p0, pn, pa, pl, pc, q0, qn, qa, ql, qc, e, h1, h2⟩ := h
  exact ⟨p0, pn, pa, pl, pc, q0, qn, qa, ql, qc, e, h1.mono' (Nat.zero_le _) (Nat.le_refl _), h2.mono' (Nat.zero_le _) (Nat.le_refl _)⟩
theorem qn_keeps {B : Nat} {W W' : World} {s0 : Int} {s1 : Bool} {s2 : Option Addr} {s3 s4 : Nat} {s5 : Int} {s6 : Bool} {s7 : Option Addr} {s8 s9 : Nat} {x y : Int} {g : Nat} (h : IsQN B W (.agg #[.int .i64 s0, .bool s1, .slice s2 s3 s4, .int .i64 s5, .bool s6, .slice s7 s8 s9]) x y) (n : NoInt W g) (k : Keeps g g W W') : IsQN B W' (.agg #[.int .i64 s0, .bool s1, .slice s2 s3 s4, .int .i64 s5, .bool s6, .slice s7 s8 s9]) x y := by
  obtain ⟨_, _, _, _, _, _, _, _, _, _, e, h1, h2⟩ := h
  simp only [Value.agg.injEq, Array.mk.injEq, List.cons.injEq, Value.int.injEq, Value.bool.injEq, Value.slice.injEq, and_true, true_and] at e
  obtain ⟨rfl, rfl, ⟨rfl, rfl, rfl⟩, rfl, rfl, rfl, rfl, rfl⟩ := e
  exact ⟨_, _, _, _, _, _, _, _, _, _, rfl, h1.keeps n n k, h2.keeps n n k⟩
/-- The sum so far: p / q. -/
structure Su (D : Int) (S : Int) (k : Nat) (p q : Int) : Prop where
  eq : p * D = q * S
  pos : 0 < q
  bp : p.natAbs < lb (8 * k + 8)
  bq : q.natAbs < lb (8 * k + 8)
theorem Su.next {D S a x y u v p q p' q' n : Int} {k : Nat} (h : Su D S k p q) (ha : a.natAbs < lb 5) (hx : x.natAbs < lb 1) (hy : y.natAbs < lb 1) (h1 : IsLow (a * x) (1 * y) u v) (h2 : IsLow (p * v + u * q) (q * v) p' q') (hn : n * y = x * D) : Su D (S + a * n) (k + 1) p' q' := by
  have l1 := low_abs h1
  have l2 := low_abs h2
  have hu : u.natAbs < lb 6 := Nat.lt_of_le_of_lt l1.1 (by rw [Int.natAbs_mul]; exact lb_mul 5 1 ha hx)
  have hv : v.natAbs < lb 6 := Nat.lt_of_le_of_lt l1.2 (by rw [Int.one_mul]; exact lb_le 1 6 (by decide) hy)
  refine ⟨low_step h.eq h1 h2 hn, low_pos h2, Nat.lt_of_le_of_lt l2.1 ?_, Nat.lt_of_le_of_lt l2.2 ?_⟩
  · refine Nat.lt_of_le_of_lt (Int.natAbs_add_le _ _) ?_
    rw [Int.natAbs_mul, Int.natAbs_mul]
    have h5 := lb_mul 6 (8 * k + 8) hu h.bq
    rw [Nat.add_comm 6] at h5
    exact lb_le (8 * k + 8 + 6 + 1) (8 * (k + 1) + 8) (by omega) (lb_add (8 * k + 8 + 6) (lb_mul (8 * k + 8) 6 h.bp hv) h5)
  · rw [Int.natAbs_mul]
    exact lb_le (8 * k + 8 + 6) (8 * (k + 1) + 8) (by omega) (lb_mul (8 * k + 8) 6 h.bq hv)
theorem Su.met {D S p q b : Int} {k : Nat} {st : Bool} (h : Su D S k p q) (hD : 0 < D) : metB S (b * D) st = ordB (ordI (p * 1) (b * q)) st := by
  rw [← metB_ord, Int.mul_one]
  refine (metB_scale (D := q) (D' := D) h.pos hD ?_ (Int.mul_right_comm _ _ _)).symm
  rw [h.eq, Int.mul_comm]
/-- The two boxes. -/
structure LS (wo : World) (sb : Nat) (row su : List Value) (W : World) : Prop where
  rbx : Bx W wo.heap.size row
  sbx : Bx W sb su
  bel : Below wo.heap.size wo W
theorem LS.below {wo : World} {sb : Nat} {row su : List Value} {W W' : World} (h : LS wo sb row su W) (hb : Below W.heap.size W W') : LS wo sb row su W' :=
  ⟨h.rbx.below h.rbx.lt hb, h.sbx.below h.sbx.lt hb, h.bel.trans (hb.mono h.bel.size)⟩
set_option maxRecDepth 100000 in
set_option maxHeartbeats 8000000 in
theorem l12Meets_any (vr vv : Value) (F : List Nr) (V : List (Int × Int)) (N : List Int) (D : Int) (w : World) (base B B' : Nat) (hr : RRow base B w vr F) (hv : QRow B' w vv V) (hC : Comm V N D) (hV : ∀ i (_ : i < V.length), V[i].1.natAbs < lb 1 ∧ V[i].2.natAbs < lb 1 ∧ 0 < V[i].2) (h20 : V.length ≤ 20) (hok : ∀ f ∈ F, f.cs.length = V.length ∧ Sm5 f) (hF : F.length ≤ 50) :
    Calls Tryz.prog 24 #[vr, vv] w fun e w' => e = .returned (.bool (ansN F N D)) ∧ Below w.heap.size w w' := by
  have HR := hidG hr
  have HV := hidG hv
  have HC := hidG hC
  have HVB := hidG hV
  have HOK := hidG hok
  obtain ⟨av, bv, rfl⟩ := hv.form
  obtain ⟨ar, br, rfl⟩ : ∃ a b, vr = .slice a F.length b := by
    obtain ⟨xs, hr, _⟩ := hr
    rcases hr.2 with ⟨e, e2⟩ | ⟨g, cap, cur, e, _⟩
    · exact ⟨none, 0, by rw [e, e2]⟩
    · exact ⟨_, _, e⟩
  clear hr hv hC hV hok
  go_enter Tryz.func24, Tryz.ntmps24
  go_wp2_with fail
  go_loopw [12] (fun iv wr => ∃ i : Nat, i ≤ F.length ∧ iv = .int .i64 (i : Nat) ∧ (∀ j (_ : j < F.length), j < i → metN N D F[j] = true) ∧ Below w.heap.size w wr) (fun iv _ => F.length - (intOf iv).toNat)
  case atStart => exact ⟨0, Nat.zero_le _, rfl, fun j _ h => absurd h (Nat.not_lt_zero _), Below.refl _ _⟩
  case round =>
    rename World => wo
    obtain ⟨i, hi, rfl, hall, hB⟩ := hrel
    have HAL := hidG hall
    have HB := hidG hB
    clear hall
    by_cases hlt : i < F.length
    · obtain ⟨xs, hown, hel⟩ := HR.out.below hB
      obtain ⟨g, rfl⟩ : ∃ g, ar = some ⟨g, 0, none⟩ := by
        rcases hown.2 with ⟨_, e2⟩ | ⟨g, cap, cur, e, _⟩
        · omega
        · cases e; exact ⟨g, rfl⟩
      obtain ⟨va, d0, d1, d2, d3, d4, d5, e8, hqa, hqb⟩ := (hel i hlt).ex
      obtain ⟨c0, c1, c2, c3, c4, c5, c6, c7, c8, c9, e6⟩ := hqb.shape
      simp only [List.cons.injEq, and_true] at e6
      obtain ⟨rfl, rfl, rfl, rfl, rfl, rfl⟩ := e6
      obtain ⟨aq, bq, rfl⟩ := hqa.form
      rw [List.length_map] at e8 hqa
      have hok := HOK.out _ (List.getElem_mem hlt)
      have HNOT : Hid (metN N D F[i] = false → ansN F N D = false) := fun h => by
        rw [ansN_all, Bool.eq_false_iff]
        intro hh
        have := List.all_eq_true.1 hh F[i] (List.getElem_mem hlt)
        rw [h] at this
        cases this
      have HNX : Hid (metN N D F[i] = true → ∀ j (_ : j < F.length), j < i + 1 → metN N D F[j] = true) := fun h j hj hji => by
        by_cases e : j = i
        · subst e; exact h
        · exact HAL.out j hj (by omega)
      obtain ⟨f, hf⟩ : ∃ f, F[i] = f := ⟨_, rfl⟩
      rw [hf] at e8 hqa hqb hok HNOT HNX
      have HOF := hidG hok
      have HLE := hidG hok.1
      have hl20 : f.cs.length ≤ 20 := by have := hok.1; omega
      have k0 := (hown.cellAt (i * 8) (by omega)).trans (take_at (d := 0) e8 (by decide))
      have k1 := (hown.cellAt (i * 8 + 1) (by omega)).trans (take_at (d := 1) e8 (by decide))
      have k2 := (hown.cellAt (i * 8 + 2) (by omega)).trans (take_at (d := 2) e8 (by decide))
      have k3 := (hown.cellAt (i * 8 + 3) (by omega)).trans (take_at (d := 3) e8 (by decide))
      have k4 := (hown.cellAt (i * 8 + 4) (by omega)).trans (take_at (d := 4) e8 (by decide))
      have k5 := (hown.cellAt (i * 8 + 5) (by omega)).trans (take_at (d := 5) e8 (by decide))
      have k6 := (hown.cellAt (i * 8 + 6) (by omega)).trans (take_at (d := 6) e8 (by decide))
      have k7 := (hown.cellAt (i * 8 + 7) (by omega)).trans (take_at (d := 7) e8 (by decide))
      simp only [List.getElem?_cons_zero, List.getElem?_cons_succ] at k0 k1 k2 k3 k4 k5 k6 k7
      have HQA := hidG hqa
      have HQB := hidG hqb
      obtain ⟨W1, hW1⟩ : ∃ W1, wo.alloc (.cells #[.slice aq f.cs.length bq, .bool f.st, .int .i64 c0, .bool c1, .slice c2 c3 c4, .int .i64 c5, .bool c6, .slice c7 c8 c9] 75) = W1 := ⟨_, rfl⟩
      have hB1 : Below wo.heap.size wo W1 := by rw [← hW1]; exact below_alloc _ _
      have HX1 : Hid (Bx W1 wo.heap.size [.slice aq f.cs.length bq, .bool f.st, .int .i64 c0, .bool c1, .slice c2 c3 c4, .int .i64 c5, .bool c6, .slice c7 c8 c9]) := by unfold Hid; rw [← hW1]; exact bx_new wo _ _
      have HW1 := hidG hW1
      have HB1 := hidG hB1
      clear hf hel e8 hqa hqb hok hown hW1 hB1 hB
      go_wp2_with (rw [HW1.out])
      refine (l2IntZ_any W1).mono ?_
      rintro e w2 ⟨z, rfl, hz, hb2⟩
      obtain ⟨s0, s1, s2, s3, s4, s5, s6, s7, s8, s9, rfl, -, -⟩ := id hz
      obtain ⟨W3, hW3⟩ : ∃ W3, w2.alloc (.cells #[.int .i64 s0, .bool s1, .slice s2 s3 s4, .int .i64 s5, .bool s6, .slice s7 s8 s9] 55) = W3 := ⟨_, rfl⟩
      have hB3 : Below w2.heap.size w2 W3 := by rw [← hW3]; exact below_alloc _ _
      have hX3 : Bx W3 w2.heap.size [.int .i64 s0, .bool s1, .slice s2 s3 s4, .int .i64 s5, .bool s6, .slice s7 s8 s9] := by rw [← hW3]; exact bx_new w2 _ _
      have HW3 := hidG hW3
      have HS2 : Hid (wo.heap.size < w2.heap.size) := Nat.lt_of_lt_of_le HX1.out.lt hb2.size
      have HST : Hid (LS wo w2.heap.size [.slice aq f.cs.length bq, .bool f.st, .int .i64 c0, .bool c1, .slice c2 c3 c4, .int .i64 c5, .bool c6, .slice c7 c8 c9] [.int .i64 s0, .bool s1, .slice s2 s3 s4, .int .i64 s5, .bool s6, .slice s7 s8 s9] W3) := ⟨(HX1.out.below HX1.out.lt hb2).below (HX1.out.below HX1.out.lt hb2).lt hB3, hX3, (HB1.out.trans (hb2.mono HB1.out.size)).trans (hB3.mono (Nat.le_of_lt HS2.out))⟩
      have HQ0 := hidG (hz.below hB3)
      obtain ⟨r0, -⟩ := HST.out.rbx.c8
      clear hz hb2 hB3 hX3 hW3
      go_wp2_with (rw [HW3.out])
      go_loopw [20] (fun jv wr => ∃ (k : Nat) (p q : Int) (s0 : Int) (s1 : Bool) (s2 : Option Addr) (s3 s4 : Nat) (s5 : Int) (s6 : Bool) (s7 : Option Addr) (s8 s9 : Nat), k ≤ f.cs.length ∧ jv = .int .i64 (k : Nat) ∧ LS wo w2.heap.size [.slice aq f.cs.length bq, .bool f.st, .int .i64 c0, .bool c1, .slice c2 c3 c4, .int .i64 c5, .bool c6, .slice c7 c8 c9] [.int .i64 s0, .bool s1, .slice s2 s3 s4, .int .i64 s5, .bool s6, .slice s7 s8 s9] wr ∧ IsQN 0 wr (.agg #[.int .i64 s0, .bool s1, .slice s2 s3 s4, .int .i64 s5, .bool s6, .slice s7 s8 s9]) p q ∧ Su D (dotN (csOf f) (numsOf N) k) k p q) (fun jv _ => f.cs.length - (intOf jv).toNat)
      case atStart => exact ⟨0, 0, 1, s0, s1, s2, s3, s4, s5, s6, s7, s8, s9, Nat.zero_le _, rfl, HST.out, HQ0.out, ⟨by simp [dotN], by decide, Nat.lt_trans Nat.zero_lt_one (lb_one 8 (by decide)), lb_one 8 (by decide)⟩⟩
      case round =>
        rename World => wi
        clear HST HQ0 r0
        obtain ⟨k, p, q, s0, s1, s2, s3, s4, s5, s6, s7, s8, s9, hk, rfl, hL, hQ, hSu⟩ := hrel
        have HL := hidG hL
        have HQ := hidG hQ
        have HSU := hidG hSu
        by_cases hkl : k < f.cs.length
        · have hkV : k < V.length := by have := HLE.out; omega
          have hkm : k < (f.cs.map (fun x => (x, (1 : Int)))).length := by simpa using hkl
          have hbw := HB.out.trans (HL.out.bel.mono HB.out.size)
          obtain ⟨ga, a0, a1, a2, a3, a4, a5, a6, a7, a8, a9, rfl, hga, ha6, hqa⟩ := (HQA.out.below HL.out.bel).at hkm
          obtain ⟨gv, b0, b1, b2, b3, b4, b5, b6, b7, b8, b9, rfl, hgv, hb6, hqb⟩ := (HV.out.below hbw).at hkV
          rw [List.getElem_map] at hqa
          have hck : csOf f k = f.cs[k] := by unfold csOf; rw [List.getD_eq_getElem?_getD, List.getElem?_eq_getElem hkl]; rfl
          rw [← hck] at hqa
          have hca : (csOf f k).natAbs < lb 5 := by rw [hck]; exact HOF.out.2.1 _ (List.getElem_mem hkl)
          have hvb := HVB.out k hkV
          have HQ1 := hidG (qn0 hqa)
          have HQ2 := hidG (qn0 hqb)
          have HMU : Hid (∀ W, Below wi.heap.size wi W → Calls Tryz.prog 53 #[(.agg #[.int .i64 a0, .bool a1, .slice a2 a3 a4, .int .i64 a5, .bool a6, .slice a7 a8 a9]), (.agg #[.int .i64 b0, .bool b1, .slice b2 b3 b4, .int .i64 b5, .bool b6, .slice b7 b8 b9])] W fun e w' => ∃ z u v, e = .returned z ∧ IsQN 0 w' z u v ∧ IsLow (csOf f k * V[k].1) (1 * V[k].2) u v ∧ Below W.heap.size W w') := fun W hW =>
            l2Mul_any 0 _ _ _ _ _ _ W (Nat.zero_le _) (HQ1.out.below hW) (HQ2.out.below hW) ⟨lb_le 5 300 (by decide) hca, lb_one 300 (by decide), lb_le 1 300 (by decide) hvb.1, lb_le 1 300 (by decide) hvb.2.1⟩ (by rw [Int.one_mul]; omega)
          have hN : numsOf N k * V[k].2 = V[k].1 * D := by
            have hkN : k < N.length := by rw [HC.out.1]; exact hkV
            unfold numsOf
            rw [List.getD_eq_getElem?_getD, List.getElem?_eq_getElem hkN]
            exact HC.out.2.2 k hkV hkN
          have HAD : Hid (∀ W z u v, Below wi.heap.size wi W → IsQN 0 W z u v → IsLow (csOf f k * V[k].1) (1 * V[k].2) u v → Calls Tryz.prog 52 #[(.agg #[.int .i64 s0, .bool s1, .slice s2 s3 s4, .int .i64 s5, .bool s6, .slice s7 s8 s9]), z] W fun e w' => ∃ z' p' q', e = .returned z' ∧ IsQN 0 w' z' p' q' ∧ Su D (dotN (csOf f) (numsOf N) (k + 1)) (k + 1) p' q' ∧ Below W.heap.size W w') := fun W z u v hW hz hlow => by
            have l1 := low_abs hlow
            have hu : u.natAbs < lb 6 := Nat.lt_of_le_of_lt l1.1 (by rw [Int.natAbs_mul]; exact lb_mul 5 1 hca hvb.1)
            have hv : v.natAbs < lb 6 := Nat.lt_of_le_of_lt l1.2 (by rw [Int.one_mul]; exact lb_le 1 6 (by decide) hvb.2.1)
            refine (l2Add_any 0 _ _ p q u v W (Nat.zero_le _) (HQ.out.below hW) hz ⟨lb_le _ 300 (by omega) HSU.out.bp, lb_le _ 300 (by omega) HSU.out.bq, lb_le 6 300 (by decide) hu, lb_le 6 300 (by decide) hv⟩ (Int.mul_ne_zero (Int.ne_of_gt HSU.out.pos) (Int.ne_of_gt (low_pos hlow)))).mono ?_
            rintro e w' ⟨z', p', q', rfl, hz', hlow', hb⟩
            exact ⟨z', p', q', rfl, hz', HSU.out.next hca hvb.1 hvb.2.1 hlow hlow' hN, hb⟩
          have HCC : Hid (∀ W, Below wi.heap.size wi W → (W.cell? ⟨w2.heap.size, 0, none⟩ = some (.int .i64 s0) ∧ W.cell? ⟨w2.heap.size, 1, none⟩ = some (.bool s1) ∧ W.cell? ⟨w2.heap.size, 2, none⟩ = some (.slice s2 s3 s4) ∧ W.cell? ⟨w2.heap.size, 3, none⟩ = some (.int .i64 s5) ∧ W.cell? ⟨w2.heap.size, 4, none⟩ = some (.bool s6) ∧ W.cell? ⟨w2.heap.size, 5, none⟩ = some (.slice s7 s8 s9)) ∧ (W.frozen? ⟨w2.heap.size, 0, none⟩ = false ∧ W.frozen? ⟨w2.heap.size, 1, none⟩ = false ∧ W.frozen? ⟨w2.heap.size, 2, none⟩ = false ∧ W.frozen? ⟨w2.heap.size, 3, none⟩ = false ∧ W.frozen? ⟨w2.heap.size, 4, none⟩ = false ∧ W.frozen? ⟨w2.heap.size, 5, none⟩ = false) ∧ W.cell? ⟨wo.heap.size, 0, none⟩ = some (.slice (some ⟨ga, 0, none⟩) f.cs.length bq) ∧ (W.cell? ⟨ga, k * 6, none⟩ = some (.int .i64 a0) ∧ W.cell? ⟨ga, k * 6 + 1, none⟩ = some (.bool a1) ∧ W.cell? ⟨ga, k * 6 + 2, none⟩ = some (.slice a2 a3 a4) ∧ W.cell? ⟨ga, k * 6 + 3, none⟩ = some (.int .i64 a5) ∧ W.cell? ⟨ga, k * 6 + 4, none⟩ = some (.bool a6) ∧ W.cell? ⟨ga, k * 6 + 5, none⟩ = some (.slice a7 a8 a9)) ∧ (W.cell? ⟨gv, k * 6, none⟩ = some (.int .i64 b0) ∧ W.cell? ⟨gv, k * 6 + 1, none⟩ = some (.bool b1) ∧ W.cell? ⟨gv, k * 6 + 2, none⟩ = some (.slice b2 b3 b4) ∧ W.cell? ⟨gv, k * 6 + 3, none⟩ = some (.int .i64 b5) ∧ W.cell? ⟨gv, k * 6 + 4, none⟩ = some (.bool b6) ∧ W.cell? ⟨gv, k * 6 + 5, none⟩ = some (.slice b7 b8 b9))) := fun W hW => by
            have h := HL.out.below hW
            obtain ⟨a6a, a6b, a6c, a6d, a6e, a6f⟩ := ha6
            obtain ⟨b6a, b6b, b6c, b6d, b6e, b6f⟩ := hb6
            exact ⟨h.sbx.c6, h.sbx.f6, h.rbx.c8.1, ⟨(hW.cell (p := ⟨ga, k * 6, none⟩) hga).trans a6a, (hW.cell (p := ⟨ga, k * 6 + 1, none⟩) hga).trans a6b, (hW.cell (p := ⟨ga, k * 6 + 2, none⟩) hga).trans a6c, (hW.cell (p := ⟨ga, k * 6 + 3, none⟩) hga).trans a6d, (hW.cell (p := ⟨ga, k * 6 + 4, none⟩) hga).trans a6e, (hW.cell (p := ⟨ga, k * 6 + 5, none⟩) hga).trans a6f⟩, ⟨(hW.cell (p := ⟨gv, k * 6, none⟩) hgv).trans b6a, (hW.cell (p := ⟨gv, k * 6 + 1, none⟩) hgv).trans b6b, (hW.cell (p := ⟨gv, k * 6 + 2, none⟩) hgv).trans b6c, (hW.cell (p := ⟨gv, k * 6 + 3, none⟩) hgv).trans b6d, (hW.cell (p := ⟨gv, k * 6 + 4, none⟩) hgv).trans b6e, (hW.cell (p := ⟨gv, k * 6 + 5, none⟩) hgv).trans b6f⟩⟩
          have HNEW : Hid (∀ w5 (t0 : Int) (t1 : Bool) (t2 : Option Addr) (t3 t4 : Nat) (t5 : Int) (t6 : Bool) (t7 : Option Addr) (t8 t9 : Nat) p' q', Below wi.heap.size wi w5 → IsQN 0 w5 (.agg #[.int .i64 t0, .bool t1, .slice t2 t3 t4, .int .i64 t5, .bool t6, .slice t7 t8 t9]) p' q' → LS wo w2.heap.size [.slice (some ⟨ga, 0, none⟩) f.cs.length bq, .bool f.st, .int .i64 c0, .bool c1, .slice c2 c3 c4, .int .i64 c5, .bool c6, .slice c7 c8 c9] [.int .i64 t0, .bool t1, .slice t2 t3 t4, .int .i64 t5, .bool t6, .slice t7 t8 t9] ((((((w5.setCell ⟨w2.heap.size, 0, none⟩ (.int .i64 t0)).setCell ⟨w2.heap.size, 1, none⟩ (.bool t1)).setCell ⟨w2.heap.size, 2, none⟩ (.slice t2 t3 t4)).setCell ⟨w2.heap.size, 3, none⟩ (.int .i64 t5)).setCell ⟨w2.heap.size, 4, none⟩ (.bool t6)).setCell ⟨w2.heap.size, 5, none⟩ (.slice t7 t8 t9)) ∧ IsQN 0 ((((((w5.setCell ⟨w2.heap.size, 0, none⟩ (.int .i64 t0)).setCell ⟨w2.heap.size, 1, none⟩ (.bool t1)).setCell ⟨w2.heap.size, 2, none⟩ (.slice t2 t3 t4)).setCell ⟨w2.heap.size, 3, none⟩ (.int .i64 t5)).setCell ⟨w2.heap.size, 4, none⟩ (.bool t6)).setCell ⟨w2.heap.size, 5, none⟩ (.slice t7 t8 t9)) (.agg #[.int .i64 t0, .bool t1, .slice t2 t3 t4, .int .i64 t5, .bool t6, .slice t7 t8 t9]) p' q') := fun w5 t0 t1 t2 t3 t4 t5 t6 t7 t8 t9 p' q' hb hz => by
            have h := HL.out.below hb
            have hne : wo.heap.size ≠ w2.heap.size := Nat.ne_of_lt HS2.out
            have hge : wo.heap.size ≤ w2.heap.size := Nat.le_of_lt HS2.out
            refine ⟨⟨?_, (((((h.sbx.set 0 _).set 1 _).set 2 _).set 3 _).set 4 _).set 5 _, ?_⟩, qn_keeps hz (bx_noInt h.sbx (by simp)) (keepsC6 _ _ _ _ _ _ _ _)⟩
            · obtain ⟨ty, hh⟩ := h.rbx
              refine ⟨ty, ?_⟩
              rw [Below.heap_setCell _ ⟨w2.heap.size, 5, none⟩ _ _ hne, Below.heap_setCell _ ⟨w2.heap.size, 4, none⟩ _ _ hne, Below.heap_setCell _ ⟨w2.heap.size, 3, none⟩ _ _ hne, Below.heap_setCell _ ⟨w2.heap.size, 2, none⟩ _ _ hne, Below.heap_setCell _ ⟨w2.heap.size, 1, none⟩ _ _ hne, Below.heap_setCell _ ⟨w2.heap.size, 0, none⟩ _ _ hne]
              exact hh
            · exact (((((h.bel.setCell (p := ⟨w2.heap.size, 0, none⟩) hge _).setCell (p := ⟨w2.heap.size, 1, none⟩) hge _).setCell (p := ⟨w2.heap.size, 2, none⟩) hge _).setCell (p := ⟨w2.heap.size, 3, none⟩) hge _).setCell (p := ⟨w2.heap.size, 4, none⟩) hge _).setCell (p := ⟨w2.heap.size, 5, none⟩) hge _
          obtain ⟨⟨x0, x1, x2, x3, x4, x5⟩, ⟨y0, y1, y2, y3, y4, y5⟩, z0, ⟨i0, i1, i2, i3, i4, i5⟩, ⟨j0, j1, j2, j3, j4, j5⟩⟩ := HCC.out wi (Below.refl _ _)
          clear hL hQ hSu ha6 hb6 hqa hqb hbw hck hca hvb hN
          go_wp2_with fail
          go_region_law
            (first
              | (go_simp; refine (HMU.out _ (Below.refl _ _).drew).mono ?_; rintro e w3 ⟨zz, u, v, rfl, hz, hlow, hb⟩; have HB3 : Hid (Below wi.heap.size wi w3) := ⟨hb.os, hb.tape, hb.output, hb.size, hb.block⟩; have HZ3 := hidG hz; have HLW := hidG hlow; obtain ⟨ee0, ee1, ee2, ee3, ee4, ee5, ee6, ee7, ee8, ee9, rfl, -, -⟩ := id hz; obtain ⟨⟨x0, x1, x2, x3, x4, x5⟩, ⟨y0, y1, y2, y3, y4, y5⟩, z0, ⟨i0, i1, i2, i3, i4, i5⟩, ⟨j0, j1, j2, j3, j4, j5⟩⟩ := HCC.out w3 HB3.out; clear hz hb hlow; go_wp2_with fail)
              | (go_simp; refine (HAD.out _ _ _ _ HB3.out HZ3.out HLW.out).mono ?_; rintro e w5 ⟨zz, p', q', rfl, hz, hsu, hb⟩; have HB5 : Hid (Below wi.heap.size wi w5) := HB3.out.trans (hb.mono HB3.out.size); have HZ5 := hidG hz; have HSU5 := hidG hsu; obtain ⟨t0, t1, t2, t3, t4, t5, t6, t7, t8, t9, rfl, -, -⟩ := id hz; obtain ⟨⟨x0, x1, x2, x3, x4, x5⟩, ⟨y0, y1, y2, y3, y4, y5⟩, z0, ⟨i0, i1, i2, i3, i4, i5⟩, ⟨j0, j1, j2, j3, j4, j5⟩⟩ := HCC.out w5 HB5.out; clear hz hb hsu; go_wp2_with fail))
          all_goals
            go_wp2_with fail
            have hnew := HNEW.out w5 t0 t1 t2 t3 t4 t5 t6 t7 t8 t9 p' q' HB5.out HZ5.out
            exact ⟨⟨k + 1, p', q', t0, t1, t2, t3, t4, t5, t6, t7, t8, t9, by omega, by go_num, hnew.1, hnew.2, HSU5.out⟩, by simp [intOf]; omega⟩
        · have hke : k = N.length := by have := HLE.out; have := HC.out.1; omega
          have hMT : metN N D f = ordB (ordI (p * 1) (f.bd * q)) f.st := by
            unfold metN
            rw [hke] at hSu
            exact hSu.met HC.out.2.1
          obtain ⟨r, hr⟩ : ∃ r, ordI (p * 1) (f.bd * q) = r := ⟨_, rfl⟩
          have h3 := ordI_three (p * 1) (f.bd * q)
          rw [hr] at hMT h3
          have HMT := hidG hMT
          have HCP : Hid (∀ W, Below wi.heap.size wi W → Calls Tryz.prog 54 #[(.agg #[.int .i64 s0, .bool s1, .slice s2 s3 s4, .int .i64 s5, .bool s6, .slice s7 s8 s9]), (.agg #[.int .i64 c0, .bool c1, .slice c2 c3 c4, .int .i64 c5, .bool c6, .slice c7 c8 c9])] W fun e w' => e = .returned (.int .i64 r) ∧ Below W.heap.size W w') := fun W hW => by
            have := l2Cmp_any 0 _ _ p q (f.bd) 1 W (Nat.zero_le _) (HQ.out.below hW) (qn0 ((HQB.out.below (HL.out.bel.trans (hW.mono HL.out.bel.size))).isQN))
            rw [hr] at this
            exact this
          have HBE : Hid (Below w.heap.size w wi) := HB.out.trans (HL.out.bel.mono HB.out.size)
          obtain ⟨x0, x1, x2, x3, x4, x5⟩ := hL.sbx.c6
          obtain ⟨y0, y1, y2, y3, y4, y5, y6, y7⟩ := hL.rbx.c8
          have HY : Hid (∀ W, Below wi.heap.size wi W → W.cell? ⟨wo.heap.size, 1, none⟩ = some (.bool f.st)) := fun W hW => (HL.out.below hW).rbx.c8.2.1
          clear hL hQ hSu hMT hr hke
          go_wp2_with fail
          refine (HCP.out _ (Below.refl _ _)).mono ?_
          rintro e w4 ⟨rfl, hb4⟩
          have y1' := HY.out w4 hb4
          have HB4 : Hid (Below w.heap.size w w4) := HBE.out.trans (hb4.mono HBE.out.size)
          clear hb4
          have HGO : Hid (ordB r f.st = true → ∀ j (_ : j < F.length), j < i + 1 → metN N D F[j] = true) := fun h => HNX.out (HMT.out.trans h)
          have HNO : Hid (ordB r f.st = false → ansN F N D = false) := fun h => HNOT.out (HMT.out.trans h)
          rcases h3 with rfl | rfl | rfl
          · go_wp2_with fail
            go_roundw
            case rel => exact ⟨i + 1, by omega, by go_num, HGO.out (by simp [ordB]), HB4.out⟩
            case measure => simp [intOf]; omega
          · cases hst : f.st with
            | false =>
              have HX := hidG (HGO.out (by rw [hst]; rfl))
              rw [hst] at y1'
              clear hst
              go_wp2_with fail
              go_roundw
              case rel => exact ⟨i + 1, by omega, by go_num, HX.out, HB4.out⟩
              case measure => simp [intOf]; omega
            | true =>
              have HX := hidG (HNO.out (by rw [hst]; rfl))
              rw [hst] at y1'
              clear hst
              go_wp2_with fail
              go_ret
              exact ⟨ret_bool HX.out.symm, HB4.out⟩
          · have HX := hidG (HNO.out (by simp [ordB]))
            go_wp2_with fail
            go_ret
            exact ⟨ret_bool HX.out.symm, HB4.out⟩
    · have hie : i = F.length := by omega
      subst hie
      have HRR : Hid (ansN F N D = true) := by
        unfold Hid
        rw [ansN_all, List.all_eq_true]
        intro f hf
        obtain ⟨j, hj, rfl⟩ := List.getElem_of_mem hf
        exact HAL.out j hj hj
      clear hB
      go_wp2_with fail
      go_ret
      exact ⟨ret_bool HRR.out.symm, HB.out⟩
/-- Texts of small numbers. -/
def Vals (L : List (List UInt8)) (V : List (Int × Int)) : Prop := V.length = L.length ∧ ∀ i (_ : i < L.length) (_ : i < V.length), RatIs L[i] V[i].1 V[i].2 ∧ V[i].1.natAbs ≤ 8 ∧ V[i].2 ≤ 8
set_option maxRecDepth 100000 in
set_option maxHeartbeats 4000000 in
theorem meetsS_spec (cols : Int) (v vv : Value) (F : List Lr) (L : List (List UInt8)) (V : List (Int × Int)) (N : List Int) (D : Int) (w : World) (h : RowsAt w v F) (hs : F.length ≤ 1048576 ∧ ∀ f ∈ F, SmallR f) (hv : StrsAt w vv L) (hsv : SmallS L) (hVs : Vals L V) (hC : Comm V N D) (hc1 : -9223372036854775808 ≤ cols) (hc2 : cols ≤ 9223372036854775807) :
    Calls Tryz.prog 9 #[.int .i64 cols, v, vv] w fun e w' => e = .returned (.bool (meetB cols F V.length N D)) ∧ Below w.heap.size w w' := by
  have HR := hidG h
  have HV := hidG hv
  have HSM := hidG hs
  have HSV := hidG hsv
  have HVS := hidG hVs
  have HC := hidG hC
  obtain ⟨p, c, rfl, l1, m1, r1⟩ := h
  obtain ⟨pv, cv, rfl, l2, m2, r2⟩ := hv
  unfold maxLen at m1 m2
  have H2 := hidG r2
  have hl := hs.1
  have hlv := hsv.1
  have HLV := hidG hVs.1
  clear r1 r2 hs hsv hVs hC
  go_enter Tryz.func9, Tryz.ntmps9
  go_wp2_with fail
  refine (goodRows_spec cols _ F w HR.out HSM.out hc1 hc2).mono ?_
  rintro e w1 ⟨rfl, hb1⟩
  have HB1 := hidG hb1
  clear hb1
  cases hg : goodR cols F with
  | false =>
    have HM : Hid (meetB cols F V.length N D = false) := by unfold Hid meetB; rw [hg]; rfl
    clear hg
    go_wp2_with fail
    go_ret
    exact ⟨ret_bool HM.out.symm, HB1.out⟩
  | true =>
  by_cases hcol : (L.length : Int) = cols
  · have yc : ((L.length : Int) == cols) = true := by simpa using hcol
    have HG := hidG hg
    have HCL := hidG hcol
    have h20 : 0 ≤ cols ∧ cols ≤ 20 ∧ F.length ≤ 50 ∧ F.all (rowOk cols) = true := by
      unfold goodR at hg
      obtain ⟨g1, g2⟩ := Bool.and_eq_true_iff.1 hg
      have := of_decide_eq_true g1
      exact ⟨this.1, this.2.1, this.2.2, g2⟩
    obtain ⟨q0, q1, q2, q3⟩ := h20
    have HALL := hidG q3
    have hL20 : L.length ≤ 20 := by omega
    clear hg q3
    go_wp2_with fail
    go_loopw [7, 22] (fun nv iv wr => ∃ (k : Nat) (Z : List (Int × Int)), k ≤ L.length ∧ iv = .int .i64 (k : Nat) ∧ Z = V.take k ∧ QRow w1.heap.size wr nv Z ∧ Below w1.heap.size w1 wr) (fun _ iv _ => L.length - (intOf iv).toNat)
    case atStart => exact ⟨0, [], Nat.zero_le _, rfl, rfl, QRow.nil _ _, Below.refl _ _⟩
    case round =>
      rename World => wo
      obtain ⟨k, Z, hk, rfl, hZ, hrow, hB⟩ := hrel
      have hZl : Z.length = k := by rw [hZ, List.length_take]; have := HLV.out; omega
      have HZ := hidG hZ
      have HZL := hidG hZl
      have HROW := hidG hrow
      have HB := hidG hB
      have HBW : Hid (Below w.heap.size w wo) := HB1.out.trans (hB.mono HB1.out.size)
      obtain ⟨na, nb, rfl⟩ := hrow.form
      rw [hZl] at HROW
      clear hrow hZ
      by_cases hlt : k < L.length
      · obtain ⟨b, rfl, hb, hA⟩ : ∃ b, pv = some ⟨b, 0, none⟩ ∧ b < w.heap.size ∧ ∀ i (h : i < L.length), w.cell? ⟨b, i, none⟩ = some (.string (strOf L[i])) := by
          rcases H2.out with h | h
          · rw [h] at hlt; exact absurd hlt (Nat.not_lt_zero _)
          · exact h
        have k0 := hA k hlt
        rw [← HBW.out.cell (p := ⟨b, k, none⟩) hb] at k0
        have hsz : (strOf L[k]).size ≤ maxLen := by
          have := HSV.out.2 _ (List.getElem_mem hlt)
          rw [strOf_size]; unfold maxLen; omega
        have HSZ := hidG hsz
        have hkV : k < V.length := by have := HLV.out; omega
        obtain ⟨⟨kc, hkc, hXY⟩, -⟩ := HVS.out.2 k hlt hkV
        have HTK : Hid (V.take (k + 1) = Z ++ [(V[k].1, V[k].2)]) := by
          unfold Hid
          rw [HZ.out, List.take_succ_eq_append_getElem hkV]
        obtain ⟨X, hX⟩ : ∃ X, V[k].1 = X := ⟨_, rfl⟩
        obtain ⟨Y, hY⟩ : ∃ Y, V[k].2 = Y := ⟨_, rfl⟩
        obtain ⟨S, hS⟩ : ∃ S, strOf L[k] = S := ⟨_, rfl⟩
        rw [hX, hY] at hXY HTK
        rw [hS] at k0 HSZ hkc hXY
        have HKC := hidG hkc
        have HXY := hidG hXY
        rw [hZl]
        clear hA hsz hS hX hY hZl hB hkc hXY
        go_wp2_with fail
        refine (specIsRat_any S wo HSZ.out).mono ?_
        rintro e w2 ⟨bb, rfl, ⟨kc', hkc', hiff⟩, hb2⟩
        obtain rfl : bb = true := hiff.2 (by
          obtain rfl := isCut_unique hkc' HKC.out
          exact ⟨_, _, HXY.out⟩)
        have HB2 : Hid (Below w1.heap.size w1 w2) := HB.out.trans (hb2.mono HB.out.size)
        have HROW2 := hidG (HROW.out.below hb2)
        have HRD : Hid (∀ W, Calls Tryz.prog 23 #[.string S] W fun e w' => ∃ z, e = .returned z ∧ IsQN W.heap.size w' z X Y ∧ Below W.heap.size W w') := fun W => l2Read_any S kc X Y W HSZ.out HKC.out HXY.out
        have HOB : Hid (∀ b, (Value.slice na k nb).ownBlock = some b → w1.heap.size ≤ b ∧ b < w2.heap.size) := fun b e => by
          obtain ⟨xs, hr, _⟩ := HROW2.out
          exact hr.lt b e
        clear hiff hb2 hkc'
        go_wp2_with fail
        refine (HRD.out _).mono ?_
        rintro e w3 ⟨z, rfl, hz, hb3⟩
        have HB3 : Hid (Below w1.heap.size w1 w3) := HB2.out.trans (hb3.mono HB2.out.size)
        have HROW3 := hidG (HROW2.out.below hb3)
        obtain ⟨yp0, ypn, ypa, ypl, ypc, yq0, yqn, yqa, yql, yqc, rfl, -, -⟩ := id hz
        have HQ3 : Hid (Qz w1.heap.size w3 [.int .i64 yp0, .bool ypn, .slice ypa ypl ypc, .int .i64 yq0, .bool yqn, .slice yqa yql yqc] X Y (Value.slice na k nb).ownBlock) := (qz_mk hz _ (fun b h1 _ h3 => Nat.lt_irrefl _ (Nat.lt_of_lt_of_le (HOB.out b h3).2 h1))).mono HB2.out.size
        clear hz hb3
        go_wp2_with (at_builtin; refine wpList_appQ (base := w1.heap.size) (N := Z) (x := X) (d := Y) rfl _ _ rfl rfl ?own ?hz _ rfl ?hH k ?hnl ?hn ?hb ?_)
        case own => exact HROW3.out
        case hz => exact HQ3.out
        case hH => rfl
        case hnl => exact HZL.out
        case hn => omega
        case hb => exact HB3.out.size
        intro g5 c5 w5 hrow5 hsz5 hgr5
        have HR5 := hidG hrow5
        have HB5 : Hid (Below w1.heap.size w1 w5) := HB3.out.grown hgr5 HB3.out.size (fun b e => (HOB.out b e).1)
        clear hrow5 hgr5
        go_wp2_with fail
        go_roundw
        case rel => exact ⟨k + 1, Z ++ [(X, Y)], by omega, by go_num, HTK.out.symm, HR5.out, HB5.out⟩
        case measure => simp [intOf]; omega
      · have hie : k = L.length := by omega
        have HKL := hidG hie
        have hZV : Z = V := by rw [HZ.out]; exact List.take_of_length_le (by have := HLV.out; omega)
        have HZV := hidG hZV
        have HM : Hid (meetB cols F V.length N D = ansN (F.map nrOf) N D) := by
          unfold Hid meetB
          rw [HG.out, HLV.out, decide_eq_true HCL.out]
          rfl
        have HOK2 : Hid (∀ f ∈ F, (textOk f.bd = true ∧ f.cs.all textOk = true ∧ f.cs.length ≤ 20) ∧ f.cs.length = V.length) := fun f hf => by
          have hro := List.all_eq_true.1 HALL.out f hf
          unfold rowOk at hro
          obtain ⟨h1, h3⟩ := Bool.and_eq_true_iff.1 hro
          obtain ⟨h1, h2⟩ := Bool.and_eq_true_iff.1 h1
          have h1 := of_decide_eq_true h1
          have := HLV.out
          have := HCL.out
          exact ⟨⟨h2, h3, by omega⟩, by omega⟩
        have HVB : Hid (∀ i (_ : i < V.length), V[i].1.natAbs < lb 1 ∧ V[i].2.natAbs < lb 1 ∧ 0 < V[i].2) := fun i hi => by
          obtain ⟨h1, h2, h3⟩ := HVS.out.2 i (by have := HLV.out; omega) hi
          have := h1.pos
          refine ⟨?_, ?_, this⟩ <;> unfold lb <;> omega
        have hV20 : V.length ≤ 20 := by have := HLV.out; omega
        have HV20 := hidG hV20
        have HROWV : Hid (QRow w1.heap.size wo (.slice na k nb) V) := by unfold Hid; rw [← hZV]; exact HROW.out
        rw [hZl]
        clear hZl hB hie hV20 hZV
        go_wp2_with fail
        refine (l12Read_any _ F wo (HR.out.below HBW.out) HSM.out (fun f hf => (HOK2.out f hf).1)).mono ?_
        rintro e w2 ⟨v2, rfl, ⟨p2, c2, rfl⟩, hrr, hb2⟩
        have HB2 : Hid (Below w.heap.size w w2) := HBW.out.trans (hb2.mono HBW.out.size)
        have HRR := hidG hrr
        have HROW2 := hidG (HROWV.out.below hb2)
        clear hrr hb2
        go_wp2_with fail
        refine (l12Meets_any _ _ (F.map nrOf) V N D w2 wo.heap.size (wo.heap.size + 1) w1.heap.size HRR.out HROW2.out HC.out HVB.out HV20.out (fun n hn => ?ok) (by rw [List.length_map]; exact q2)).mono ?_
        case ok =>
          obtain ⟨f, hf, rfl⟩ := nr_mem hn
          obtain ⟨⟨h1, h2, h3⟩, h4⟩ := HOK2.out f hf
          exact ⟨by rw [nr_len]; exact h4, sm_of h1 h2⟩
        rintro e w3 ⟨rfl, hb3⟩
        have HB3 : Hid (Below w.heap.size w w3) := HB2.out.trans (hb3.mono HB2.out.size)
        clear hb3
        go_wp2_with fail
        go_ret
        exact ⟨ret_bool HM.out.symm, HB3.out⟩
  · have yc : ((L.length : Int) == cols) = false := by simpa using hcol
    have HM : Hid (meetB cols F V.length N D = false) := by
      unfold Hid meetB
      rw [HLV.out, decide_eq_false hcol, Bool.and_false]
      rfl
    clear hg
    go_wp2_with fail
    go_ret
    exact ⟨ret_bool HM.out.symm, HB1.out⟩
end Go.Proofs.YtknfmkeipeikkaaGreatDoor.L
