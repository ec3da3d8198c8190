import Derived.Test.YtpjnglcojamfmaaGreatDoorK2
import Derived.Laws.Strings3
namespace Go.Proofs.YtpjnglcojamfmaaGreatDoor
open Go.ChangeShapes Go.WideShapes Go.ChangeAt Go.RowKit
theorem numZ_read (B : Nat) (w : World) (z : Value) (p : ByteArray) (hp : isIntB p = true) (h : IsZ B w z (isNeg p) (lim p)) : NumZ B w z (numT p) 1000 :=
  ⟨_, _, h, rfl, by have := lim_len' p hp; omega⟩
set_option maxRecDepth 100000 in
set_option maxHeartbeats 1000000 in
theorem l2Read_any (s : ByteArray) (k : Option Nat) (x y : Int) (w : World) (hs : s.size ≤ maxLen) (hk : IsCut s k) (hV : RatV s k x y) :
    Calls Tryz.prog 63 #[.string s] w fun e w' => ∃ z, e = .returned z ∧ IsQN w.heap.size w' z x y ∧ Below w.heap.size w w' := by
  have HK := hidG hk
  have HV := hidG hV
  clear hk hV
  obtain ⟨W0, hW0⟩ : ∃ W0, w.alloc (.cells #[.int .i64 0, .bool false, .slice none 0 0, .int .i64 0, .bool false, .slice none 0 0] 71) = W0 := ⟨_, rfl⟩
  have HW0 := hidG hW0
  have HB0 : Hid (Below w.heap.size w W0) := by show Below w.heap.size w W0; rw [← hW0]; exact below_alloc _ _
  have hx1 : Bx W0 w.heap.size [.int .i64 0, .bool false, .slice none 0 0, .int .i64 0, .bool false, .slice none 0 0] := by rw [← hW0]; exact bx_new w _ _
  have HX : Hid (∀ W, Below W0.heap.size W0 W → Bx W w.heap.size [.int .i64 0, .bool false, .slice none 0 0, .int .i64 0, .bool false, .slice none 0 0]) := fun W hW => hx1.below hx1.lt hW
  clear hW0 hx1
  cases k with
  | none =>
    go_enter Tryz.func63, Tryz.ntmps63
    go_wp2_with fail
    rw [HW0.out]
    refine (l2Cut_any s none _ hs HK.out).mono ?_
    rintro e w1 ⟨rfl, hw1⟩
    subst hw1
    have e1 : cutI none = -1 := rfl
    rw [e1]
    go_wp2_with fail
    refine (l1Read_any s _ HV.out.1).mono ?_
    rintro e w2 ⟨z1, rfl, hz1, hb2⟩
    have hn1 := numZ_read _ _ _ s HV.out.1 hz1
    obtain ⟨a0, an, aa, al, ac, rfl⟩ := hn1.shape'
    have HN1 := hidG hn1
    have HB2 := hidG hb2
    clear hz1 hn1 hb2
    go_wp2_with fail
    refine (l2OfZ_any _ a0 an aa al ac (numT s) _ HB2.out.size HN1.out).mono ?_
    rintro e w3 ⟨z, rfl, hq, hb3⟩
    obtain ⟨p0, pn, pa, pl, pc, q0, qn, qa, ql, qc, rfl, hP, hQ⟩ := hq
    have HB3 := hidG (HB2.out.trans (hb3.mono HB2.out.size))
    have HPQ : Hid (NumZ w.heap.size w3 (.agg #[.int .i64 p0, .bool pn, .slice pa pl pc]) x 1000 ∧ NumZ w.heap.size w3 (.agg #[.int .i64 q0, .bool qn, .slice qa ql qc]) y 1000) := by
      rw [HV.out.2.1, HV.out.2.2]
      exact ⟨hP.mono' HB0.out.size (Nat.le_refl _), hQ.mono' HB0.out.size (Nat.le_refl _)⟩
    have hbw := HX.out w3 HB3.out
    have r0 := hbw.cell 0
    have r1 := hbw.cell 1
    have r2 := hbw.cell 2
    have r3 := hbw.cell 3
    have r4 := hbw.cell 4
    have r5 := hbw.cell 5
    simp only [List.getElem?_cons_zero, List.getElem?_cons_succ] at r0 r1 r2 r3 r4 r5
    have f0 := hbw.frozen 0
    have f1 := hbw.frozen 1
    have f2 := hbw.frozen 2
    have f3 := hbw.frozen 3
    have f4 := hbw.frozen 4
    have f5 := hbw.frozen 5
    clear hP hQ hb3 hbw
    go_wp2
    have hbw := HX.out w3 HB3.out
    have hnR : NoInt w3 w.heap.size := noInt_of hbw (by simp)
    have hk := keeps6 w3 w.heap.size (.int .i64 p0) (.bool pn) (.slice pa pl pc) (.int .i64 q0) (.bool qn) (.slice qa ql qc)
    have hP9 := HPQ.out.1.keeps hnR hnR hk
    have hQ9 := HPQ.out.2.keeps hnR hnR hk
    have hB9 := set6 (HB0.out.trans (HB3.out.mono HB0.out.size)) w.heap.size (Nat.le_refl _) (.int .i64 p0) (.bool pn) (.slice pa pl pc) (.int .i64 q0) (.bool qn) (.slice qa ql qc)
    have hZ := hbw.put6 (.int .i64 p0) (.bool pn) (.slice pa pl pc) (.int .i64 q0) (.bool qn) (.slice qa ql qc)
    have hWW : (((((w3.setCell ⟨w.heap.size, 0, none⟩ (.int .i64 p0)).setCell ⟨w.heap.size, 1, none⟩ (.bool pn)).setCell ⟨w.heap.size, 2, none⟩ (.slice pa pl pc)).setCell ⟨w.heap.size, 3, none⟩ (.int .i64 q0)).setCell ⟨w.heap.size, 4, none⟩ (.bool qn)).setCell ⟨w.heap.size, 5, none⟩ (.slice qa ql qc) = W6 w3 w.heap.size (.int .i64 p0) (.bool pn) (.slice pa pl pc) (.int .i64 q0) (.bool qn) (.slice qa ql qc) := rfl
    rw [hWW]
    generalize W6 w3 w.heap.size (.int .i64 p0) (.bool pn) (.slice pa pl pc) (.int .i64 q0) (.bool qn) (.slice qa ql qc) = W9 at *
    have m0 := hZ.cell 0
    have m1 := hZ.cell 1
    have m2 := hZ.cell 2
    have m3 := hZ.cell 3
    have m4 := hZ.cell 4
    have m5 := hZ.cell 5
    simp only [List.getElem?_cons_zero, List.getElem?_cons_succ] at m0 m1 m2 m3 m4 m5
    refine bodyPost_ret (v := .agg #[.int .i64 p0, .bool pn, .slice pa pl pc, .int .i64 q0, .bool qn, .slice qa ql qc]) ?_ rfl ⟨_, rfl, ⟨p0, pn, pa, pl, pc, q0, qn, qa, ql, qc, rfl, hP9, hQ9⟩, hB9⟩
    simp [results, Tryz.results63, go_sem, m0, m1, m2, m3, m4, m5]
  | some i =>
    have hi := isCut_lt HK.out
    have c1 : (0 : Int) ≤ (i : Int) := by omega
    have c2 : (i : Int) ≤ (s.size : Int) := by omega
    have c3 : (0 : Int) ≤ (i : Int) + 1 := by omega
    have c4 : (i : Int) + 1 ≤ (s.size : Int) := by omega
    have hcp : s.extract 0 i = cutP s (some i) := rfl
    have hcq : s.extract (i + 1) s.size = cutQ s (some i) := rfl
    obtain ⟨p, hp⟩ : ∃ p, cutP s (some i) = p := ⟨_, rfl⟩
    obtain ⟨q, hq⟩ : ∃ q, cutQ s (some i) = q := ⟨_, rfl⟩
    have HPQ : Hid (cutP s (some i) = p ∧ cutQ s (some i) = q) := ⟨hp, hq⟩
    rw [hp] at hcp
    rw [hq] at hcq
    have HII : Hid ((isIntB p = true ∧ isIntB q = true) ∧ x = numT p ∧ y = numT q) := by
      obtain ⟨h1, _, h2, h3⟩ := HV.out
      rw [hp, hq] at h1
      rw [hp] at h2
      rw [hq] at h3
      exact ⟨h1, h2, h3⟩
    unfold maxLen at hs
    clear hp hq
    have hwr : IntKind.i64.wrap ((i : Int) + 1) = (i : Int) + 1 := wrap_id _ (by omega) (by omega)
    have hSL : ∀ W, (Instr.slice 9 (.string s) (some (.int .i64 ((i : Int) + 1))) none none).run Tryz.prog W = .ok (.string q) W := fun W => by
      rw [run_slice_string_from_if W 9 s .i64 _ Tryz.underlying9, if_pos ⟨c3, c4⟩, show ((i : Int) + 1).toNat = i + 1 by omega, hcq]
    go_enter Tryz.func63, Tryz.ntmps63
    go_wp2_with fail
    rw [HW0.out]
    refine (l2Cut_any s (some i) _ (by unfold maxLen; exact hs) HK.out).mono ?_
    rintro e w1 ⟨rfl, hw1⟩
    subst hw1
    have e1 : cutI (some i) = (i : Int) := rfl
    rw [e1]
    go_wp2_with fail
    go_region_with (first
      | (go_at_call_of 48 (Value.string p)
         refine (l1Read_any p _ HII.out.1.1).mono ?_
         rintro e w2 ⟨z1, rfl, hz1, hb2⟩
         have hn1 := numZ_read _ _ _ p HII.out.1.1 hz1
         obtain ⟨p0, pn, pa, pl, pc, rfl⟩ := hn1.shape'
         have HN1 := hidG hn1
         have HB2 : Hid (Below w1.heap.size w1 w2) := (Below.refl _ w1).drew.trans hb2
         clear hz1 hn1 hb2)
      | (go_at_call_of 48 (Value.string q)
         refine (l1Read_any q _ HII.out.1.2).mono ?_
         rintro e w3 ⟨z2, rfl, hz2, hb3⟩
         have hn2 := numZ_read _ _ _ q HII.out.1.2 hz2
         obtain ⟨q0, qn, qa, ql, qc, rfl⟩ := hn2.shape'
         have HPQ : Hid (NumZ w.heap.size w3 (.agg #[.int .i64 p0, .bool pn, .slice pa pl pc]) x 1000 ∧ NumZ w.heap.size w3 (.agg #[.int .i64 q0, .bool qn, .slice qa ql qc]) y 1000) := by
           rw [HII.out.2.1, HII.out.2.2]
           exact ⟨(HN1.out.below hb3).mono' HB0.out.size (Nat.le_refl _), hn2.mono' (Nat.le_trans HB0.out.size HB2.out.size) (Nat.le_refl _)⟩
         have HB3 := hidG (HB2.out.trans (hb3.mono HB2.out.size))
         have hbw := HX.out w3 HB3.out
         have r0 := hbw.cell 0
         have r1 := hbw.cell 1
         have r2 := hbw.cell 2
         have r3 := hbw.cell 3
         have r4 := hbw.cell 4
         have r5 := hbw.cell 5
         simp only [List.getElem?_cons_zero, List.getElem?_cons_succ] at r0 r1 r2 r3 r4 r5
         have f0 := hbw.frozen 0
         have f1 := hbw.frozen 1
         have f2 := hbw.frozen 2
         have f3 := hbw.frozen 3
         have f4 := hbw.frozen 4
         have f5 := hbw.frozen 5
         clear hz2 hn2 hb3 hbw))
    all_goals
      try simp only [List.getElem_toArray, List.getElem_cons_succ, List.getElem_cons_zero, Act.put, List.setIfInBounds_toArray, List.set_cons_succ, List.set_cons_zero]
      go_wp2
      have hbw := HX.out w3 HB3.out
      have hnR : NoInt w3 w.heap.size := noInt_of hbw (by simp)
      have hk := keeps6 w3 w.heap.size (.int .i64 p0) (.bool pn) (.slice pa pl pc) (.int .i64 q0) (.bool qn) (.slice qa ql qc)
      have hP9 := HPQ.out.1.keeps hnR hnR hk
      have hQ9 := HPQ.out.2.keeps hnR hnR hk
      have hB9 := set6 (HB0.out.trans (HB3.out.mono HB0.out.size)) w.heap.size (Nat.le_refl _) (.int .i64 p0) (.bool pn) (.slice pa pl pc) (.int .i64 q0) (.bool qn) (.slice qa ql qc)
      have hZ := hbw.put6 (.int .i64 p0) (.bool pn) (.slice pa pl pc) (.int .i64 q0) (.bool qn) (.slice qa ql qc)
      have hWW : (((((w3.setCell ⟨w.heap.size, 0, none⟩ (.int .i64 p0)).setCell ⟨w.heap.size, 1, none⟩ (.bool pn)).setCell ⟨w.heap.size, 2, none⟩ (.slice pa pl pc)).setCell ⟨w.heap.size, 3, none⟩ (.int .i64 q0)).setCell ⟨w.heap.size, 4, none⟩ (.bool qn)).setCell ⟨w.heap.size, 5, none⟩ (.slice qa ql qc) = W6 w3 w.heap.size (.int .i64 p0) (.bool pn) (.slice pa pl pc) (.int .i64 q0) (.bool qn) (.slice qa ql qc) := rfl
      rw [hWW]
      generalize W6 w3 w.heap.size (.int .i64 p0) (.bool pn) (.slice pa pl pc) (.int .i64 q0) (.bool qn) (.slice qa ql qc) = W9 at *
      have m0 := hZ.cell 0
      have m1 := hZ.cell 1
      have m2 := hZ.cell 2
      have m3 := hZ.cell 3
      have m4 := hZ.cell 4
      have m5 := hZ.cell 5
      simp only [List.getElem?_cons_zero, List.getElem?_cons_succ] at m0 m1 m2 m3 m4 m5
      refine bodyPost_ret (v := .agg #[.int .i64 p0, .bool pn, .slice pa pl pc, .int .i64 q0, .bool qn, .slice qa ql qc]) ?_ rfl ⟨_, rfl, ⟨p0, pn, pa, pl, pc, q0, qn, qa, ql, qc, rfl, hP9, hQ9⟩, hB9⟩
      simp [results, Tryz.results63, go_sem, m0, m1, m2, m3, m4, m5]
end Go.Proofs.YtpjnglcojamfmaaGreatDoor
