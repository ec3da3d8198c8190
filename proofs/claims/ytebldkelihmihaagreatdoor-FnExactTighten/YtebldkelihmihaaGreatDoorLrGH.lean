import Derived.Test.YtebldkelihmihaaGreatDoorLrAB
import Derived.Test.YtebldkelihmihaaGreatDoorM8
import Derived.Test.YtebldkelihmihaaGreatDoorReadSpec
import Derived.Test.YtebldkelihmihaaGreatDoorTextBack
namespace Go.Proofs.YtebldkelihmihaaGreatDoor.L
open Go.ChangeShapes Go.WideShapes Go.ChangeAt Go.RowKit
def textOk (s : List UInt8) : Bool := isIntB (strOf s) && decide ((dgs (strOf s)).size ≤ 40)
def rowOk (cols : Int) (f : Lr) : Bool := decide ((f.cs.length : Int) = cols) && textOk f.bd && f.cs.all textOk
def goodR (cols : Int) (F : List Lr) : Bool := decide (0 ≤ cols ∧ cols ≤ 20 ∧ F.length ≤ 50) && F.all (rowOk cols)
theorem dgs_ge (s : ByteArray) : s.size ≤ (dgs s).size + 1 := by
  unfold dgs; split
  · rw [ByteArray.size_extract]; omega
  · omega
theorem textOk_long {s : List UInt8} (h : ¬ s.length ≤ 41) : textOk s = false := by
  have h1 := dgs_ge (strOf s)
  rw [strOf_size] at h1
  unfold textOk
  rw [decide_eq_false (by omega), Bool.and_false]
theorem dig_count (s : ByteArray) (h : isIntB s = true) : digC (trimL (chunks (dgs s).data.toList)) = (dgs s).size := by
  obtain ⟨hdig, h1, h2⟩ := isIntB_dig s h
  unfold isIntB at h
  simp only [Bool.and_eq_true, Bool.or_eq_true, decide_eq_true_eq, Bool.not_eq_true', decide_eq_false_iff_not, List.all_eq_true] at h
  obtain ⟨_, h4⟩ := h
  by_cases h5 : (dgs s).data.toList.head? = some 48
  · have h6 : s.toList = [48] := by
      rcases h4 with h | h
      · exact absurd h5 h
      · simpa using h
    have h7 : s = strB [48] := by
      rw [ByteArray.toList_eq] at h6
      apply ByteArray.ext
      show s.data = [48].toArray
      rw [← h6]
    have e : digC (trimL (chunks (dgs (strB [48])).data.toList)) = (dgs (strB [48])).size := by kernel_rfl
    rw [h7]
    exact e
  · have ht : textD (trimL (chunks (dgs s).data.toList)) = (dgs s).data.toList := textD_chunks (dgs s).data.toList hdig h5
    have hlen : (dgs s).data.toList.length = (dgs s).size := by simp
    have hne : ¬ (trimL (chunks (dgs s).data.toList)).length = 0 := fun e => by
      rw [List.eq_nil_of_length_eq_zero e] at ht
      have h8 : (dgs s).data.toList.length = 0 := by rw [← ht]; rfl
      omega
    unfold digC
    rw [if_neg hne, ht, hlen]
theorem limbs_few (s : ByteArray) (h : isIntB s = true) : (trimL (chunks (dgs s).data.toList)).length ≤ 600 := by
  obtain ⟨_, _, h2⟩ := isIntB_dig s h
  have h1 := trimL_len (chunks (dgs s).data.toList)
  have h3 : (chunks (dgs s).data.toList).length = cnt (dgs s).size := by unfold chunks; simp
  unfold cnt at h3
  omega
set_option maxRecDepth 100000 in
set_option maxHeartbeats 1000000 in
theorem isRowNumber_any (s : List UInt8) (w : World) (hs : s.length ≤ 1048576) :
    Calls Tryz.prog 73 #[.string (strOf s)] w fun e w' => e = .returned (.bool (textOk s)) ∧ Below w.heap.size w w' := by
  have h1 := strOf_size s
  have h2 : (strOf s).size ≤ maxLen := by unfold maxLen; omega
  have h3 := dgs_size (strOf s)
  unfold textOk
  obtain ⟨X, hX⟩ : ∃ X, strOf s = X := ⟨_, rfl⟩
  rw [hX] at h2 h3 ⊢
  obtain ⟨b, hb⟩ : ∃ b, isIntB X = b := ⟨_, rfl⟩
  have HB := hidG hb
  obtain ⟨D, hD⟩ : ∃ D, dgs X = D := ⟨_, rfl⟩
  have HD := hidG hD
  rw [hb, hD]
  have hz : (D.size : Int) ≤ 1048576 := by rw [hD] at h3; rw [hX] at h1; omega
  clear hb hD hX h1 h3
  cases b
  · go_enter Tryz.func73, Tryz.ntmps73
    go_wp2_with (go_at_call 103; refine (isInt_impl _ _ h2).mono ?_; rintro e w' ⟨rfl, rfl⟩; rw [HB.out])
    go_ret
    exact ⟨rfl, Below.refl _ _⟩
  · go_enter Tryz.func73, Tryz.ntmps73
    go_wp2_with (first
      | (go_at_call 103; refine (isInt_impl _ _ h2).mono ?_; rintro e w' ⟨rfl, rfl⟩; rw [HB.out])
      | (go_at_call 77; refine (trim_any _ _ h2).mono ?_; rintro e w' ⟨rfl, rfl⟩; rw [HD.out]))
    go_ret
    refine ⟨ret_bool ?_, Below.refl _ _⟩
    rw [Bool.true_and, decide_eq_decide]
    omega
set_option maxRecDepth 100000 in
set_option maxHeartbeats 1000000 in
theorem l12Text_any (s : List UInt8) (w : World) (hs : s.length ≤ 1048576) :
    Calls Tryz.prog 39 #[.string (strOf s)] w fun e w' => e = .returned (.bool (textOk s)) ∧ Below w.heap.size w w' := by
  by_cases h41 : s.length ≤ 41
  · have h1 := strOf_size s
    have h2 : (strOf s).size ≤ maxLen := by unfold maxLen; omega
    unfold textOk
    obtain ⟨X, hX⟩ : ∃ X, strOf s = X := ⟨_, rfl⟩
    rw [hX] at h1 h2 ⊢
    have y : decide ((41 : Int) < (X.size : Int)) = false := by rw [decide_eq_false_iff_not]; omega
    have hz : (X.size : Int) ≤ 41 := by omega
    obtain ⟨b, hb⟩ : ∃ b, isIntB X = b := ⟨_, rfl⟩
    have HB := hidG hb
    rw [hb]
    clear hb hX h1
    cases b
    · go_enter Tryz.func39, Tryz.ntmps39
      go_wp2_with (go_at_call 58; refine (isInt_spec _ _ h2).mono ?_; rintro e w' ⟨rfl, hw'⟩; subst w'; rw [HB.out])
      go_ret
      exact ⟨rfl, Below.refl _ _⟩
    · have HC : Hid (digC (trimL (chunks (dgs X).data.toList)) = (dgs X).size) := dig_count X HB.out
      have h600 := limbs_few X HB.out
      have HF := hidG h600
      clear h600
      have hzz := dgs_size X
      go_enter Tryz.func39, Tryz.ntmps39
      go_wp2_with (go_at_call 58; refine (isInt_spec _ _ h2).mono ?_; rintro e w' ⟨rfl, hw'⟩; subst w'; rw [HB.out])
      refine (l1Read_any X w HB.out).mono ?_
      rintro e w1 ⟨z, rfl, hz1, hb1⟩
      have HZ := hidG hz1
      have HB1 := hidG hb1
      clear hz1 hb1
      go_wp2_with fail
      refine (l1Digits_any w.heap.size z (isNeg X) _ w1 HZ.out HB1.out.size HF.out).mono ?_
      rintro e w2 ⟨rfl, hb2⟩
      have HB2 : Hid (Below w.heap.size w w2) := HB1.out.trans (hb2.mono HB1.out.size)
      rw [HC.out]
      clear hb2
      obtain ⟨n, hn⟩ : ∃ n, (dgs X).size = n := ⟨_, rfl⟩
      have HN := hidG hn
      rw [hn] at hzz ⊢
      clear hn
      go_wp2_with fail
      go_ret
      refine ⟨ret_bool ?_, HB2.out⟩
      have hn := HN.out
      rw [Bool.true_and, decide_eq_decide]
      omega
  · rw [textOk_long h41]
    have h1 := strOf_size s
    obtain ⟨X, hX⟩ : ∃ X, strOf s = X := ⟨_, rfl⟩
    rw [hX] at h1 ⊢
    have y : decide ((41 : Int) < (X.size : Int)) = true := by rw [decide_eq_true_iff]; omega
    have hz : (X.size : Int) ≤ 1048576 := by omega
    clear hX h1
    go_enter Tryz.func39, Tryz.ntmps39
    go_wp2_with fail
    go_ret
    exact ⟨rfl, Below.refl _ _⟩
theorem rowOk_all {cols : Int} {F : List Lr} (h : ∀ j (hj : j < F.length), j < F.length → rowOk cols F[j] = true) : F.all (rowOk cols) = true := by
  rw [List.all_eq_true]
  intro f hf
  obtain ⟨j, hj, rfl⟩ := List.getElem_of_mem hf
  exact h j hj hj
theorem rowOk_not {cols : Int} {F : List Lr} {i : Nat} (hi : i < F.length) (h : rowOk cols F[i] = false) : F.all (rowOk cols) = false := by
  rw [Bool.eq_false_iff]
  intro hh
  have := List.all_eq_true.1 hh F[i] (List.getElem_mem hi)
  rw [h] at this
  cases this
set_option maxRecDepth 100000 in
set_option maxHeartbeats 4000000 in
theorem goodRows_impl (cols : Int) (v : Value) (F : List Lr) (w : World) (h : RowsAt w v F) (hs : F.length ≤ 1048576 ∧ ∀ f ∈ F, SmallR f) (hc1 : -9223372036854775808 ≤ cols) (hc2 : cols ≤ 9223372036854775807) :
    Calls Tryz.prog 44 #[.int .i64 cols, v] w fun e w' => e = .returned (.bool (goodR cols F)) ∧ Below w.heap.size w w' := by
  obtain ⟨p, c, rfl, l1, m1, r1⟩ := h
  unfold maxLen at m1
  have H1 := hidG r1
  have HSM := hidG hs.2
  have hl := hs.1
  clear r1 hs
  by_cases h0 : 0 ≤ cols ∧ cols ≤ 20 ∧ F.length ≤ 50
  · obtain ⟨a0, a1, a2⟩ := h0
    have HG : Hid (goodR cols F = F.all (rowOk cols)) := by unfold Hid goodR; rw [decide_eq_true ⟨a0, a1, a2⟩, Bool.true_and]
    have y0 : decide (cols < 0) = false := by rw [decide_eq_false_iff_not]; omega
    have y1 : decide (20 < cols) = false := by rw [decide_eq_false_iff_not]; omega
    have y2 : decide ((50 : Int) < (F.length : Int)) = false := by rw [decide_eq_false_iff_not]; omega
    go_enter Tryz.func44, Tryz.ntmps44
    go_wp2_with fail
    go_loopw [22] (fun iv wr => ∃ i : Nat, i ≤ F.length ∧ iv = .int .i64 (i : Nat) ∧ (∀ j (hj : j < F.length), j < i → rowOk cols F[j] = true) ∧ Below w.heap.size w wr) (fun iv _ => F.length - (intOf iv).toNat)
    case atStart => exact ⟨0, Nat.zero_le _, rfl, fun j _ h => absurd h (Nat.not_lt_zero _), Below.refl _ _⟩
    case round =>
      rename World => wo
      obtain ⟨i, hi, rfl, hall, hB⟩ := hrel
      have HALL := hidG hall
      have HB := hidG hB
      clear hall
      by_cases hlt : i < F.length
      · obtain ⟨b, rfl, hb, hA⟩ : ∃ b, p = some ⟨b, 0, none⟩ ∧ b < w.heap.size ∧ ∀ i (h : i < F.length), (∃ va, w.cell? ⟨b, i * 3, none⟩ = some va ∧ StrsAt w va F[i].cs) ∧ w.cell? ⟨b, i * 3 + 1, none⟩ = some (.bool F[i].st) ∧ w.cell? ⟨b, i * 3 + 2, none⟩ = some (.string (strOf F[i].bd)) := by
          rcases H1.out with h | h
          · rw [h] at hlt; exact absurd hlt (Nat.not_lt_zero _)
          · exact h
        obtain ⟨⟨va, k0, hva⟩, k1, k2⟩ := hA i hlt
        rw [← hB.cell (p := ⟨b, i * 3, none⟩) hb] at k0
        rw [← hB.cell (p := ⟨b, i * 3 + 1, none⟩) hb] at k1
        rw [← hB.cell (p := ⟨b, i * 3 + 2, none⟩) hb] at k2
        have HSF := hidG (HSM.out _ (List.getElem_mem hlt))
        have HNOT : Hid (rowOk cols F[i] = false → goodR cols F = false) := fun h => HG.out.trans (rowOk_not hlt h)
        have HNX : Hid (rowOk cols F[i] = true → ∀ j (hj : j < F.length), j < i + 1 → rowOk cols F[j] = true) := fun h j hj hji => by
          by_cases e : j = i
          · subst e; exact h
          · exact HALL.out j hj (by omega)
        obtain ⟨f, hf⟩ : ∃ f, F[i] = f := ⟨_, rfl⟩
        rw [hf] at k1 k2 hva HSF HNOT HNX
        have HVA := hidG (hva.below hB)
        obtain ⟨pa, ca, rfl, va1, va2, va3⟩ := hva
        unfold maxLen at va2
        have HSB : Hid (f.bd.length ≤ 1048576) := HSF.out.2
        have hn8 : f.cs.length ≤ 1048576 := HSF.out.1.1
        obtain ⟨W1, hW1⟩ : ∃ W1, wo.alloc (.cells #[.slice pa f.cs.length ca, .bool f.st, .string (strOf f.bd)] 50) = W1 := ⟨_, rfl⟩
        have HB1 : Hid (Below wo.heap.size wo W1) := by unfold Hid; rw [← hW1]; exact below_alloc _ _
        have HX1 : Hid (Bx W1 wo.heap.size [.slice pa f.cs.length ca, .bool f.st, .string (strOf f.bd)]) := by unfold Hid; rw [← hW1]; exact bx_new wo _ _
        have HW1 := hidG hW1
        clear hf hB hA va3 hW1
        by_cases hcol : (f.cs.length : Int) = cols
        · have yc : ((f.cs.length : Int) == cols) = true := by simpa using hcol
          go_wp2_with fail
          rw [HW1.out]
          refine (isRowNumber_any f.bd W1 HSB.out).mono ?_
          rintro e w2 ⟨rfl, hb2⟩
          have hx2 := HX1.out.below HX1.out.lt hb2
          obtain ⟨b0, b1, b2⟩ := hx2.c3
          have HB2 : Hid (Below wo.heap.size wo w2) := HB1.out.trans (hb2.mono HB1.out.size)
          clear hb2 hx2
          cases hbd : textOk f.bd with
          | false =>
            have HR : Hid (goodR cols F = false) := HNOT.out (by unfold rowOk; rw [hbd]; simp)
            clear hbd
            go_wp2_with fail
            go_ret
            exact ⟨ret_bool HR.out.symm, HB.out.trans (HB2.out.mono HB.out.size)⟩
          | true =>
            have HBD := hidG hbd
            clear hbd
            go_wp2_with fail
            go_loopw [40] (fun jv wr => ∃ j : Nat, j ≤ f.cs.length ∧ jv = .int .i64 (j : Nat) ∧ (∀ k (hk : k < f.cs.length), k < j → textOk f.cs[k] = true) ∧ Below wo.heap.size wo wr) (fun jv _ => f.cs.length - (intOf jv).toNat)
            case atStart => exact ⟨0, Nat.zero_le _, rfl, fun j _ h => absurd h (Nat.not_lt_zero _), HB2.out⟩
            case round =>
              obtain ⟨j, hj, rfl, hall2, hBx⟩ := hrel
              have HALL2 := hidG hall2
              have HBX := hidG hBx
              clear hall2
              by_cases hjl : j < f.cs.length
              · obtain ⟨pa', ca', e', -, -, hcell⟩ := HVA.out
                simp only [Value.slice.injEq] at e'
                obtain ⟨rfl, -, rfl⟩ := e'
                obtain ⟨b3, rfl, hb3, hc3⟩ : ∃ b3, pa = some ⟨b3, 0, none⟩ ∧ b3 < wo.heap.size ∧ ∀ i (h : i < f.cs.length), wo.cell? ⟨b3, i, none⟩ = some (.string (strOf f.cs[i])) := by
                  rcases hcell with h | h
                  · rw [h] at hjl; exact absurd hjl (Nat.not_lt_zero _)
                  · exact h
                have k3 := hc3 j hjl
                rw [← hBx.cell (p := ⟨b3, j, none⟩) hb3] at k3
                have HSC : Hid (f.cs[j].length ≤ 1048576) := HSF.out.1.2 _ (List.getElem_mem hjl)
                have HN2 : Hid (textOk f.cs[j] = false → rowOk cols f = false) := fun h => by
                  unfold rowOk
                  have : f.cs.all textOk = false := by
                    rw [Bool.eq_false_iff]
                    intro hh
                    have := List.all_eq_true.1 hh f.cs[j] (List.getElem_mem hjl)
                    rw [h] at this
                    cases this
                  rw [this, Bool.and_false]
                have HX2 : Hid (textOk f.cs[j] = true → ∀ k (hk : k < f.cs.length), k < j + 1 → textOk f.cs[k] = true) := fun h k hk hkj => by
                  by_cases e : k = j
                  · subst e; exact h
                  · exact HALL2.out k hk (by omega)
                obtain ⟨t, ht⟩ : ∃ t, f.cs[j] = t := ⟨_, rfl⟩
                rw [ht] at k3 HSC HN2 HX2
                clear ht hc3 hcell hBx
                go_wp2_with fail
                refine (isRowNumber_any t wr HSC.out).mono ?_
                rintro e w3 ⟨rfl, hb3'⟩
                have HB3 : Hid (Below wo.heap.size wo w3) := HBX.out.trans (hb3'.mono HBX.out.size)
                clear hb3'
                cases htx : textOk t with
                | false =>
                  have HR : Hid (goodR cols F = false) := HNOT.out (HN2.out htx)
                  clear htx
                  go_wp2_with fail
                  go_ret
                  exact ⟨ret_bool HR.out.symm, HB.out.trans (HB3.out.mono HB.out.size)⟩
                | true =>
                  have HT := hidG (HX2.out htx)
                  clear htx
                  go_wp2_with fail
                  go_roundw
                  case rel => exact ⟨j + 1, by omega, by go_num, HT.out, HB3.out⟩
                  case measure => simp [intOf]; omega
              · have hie : j = f.cs.length := by omega
                subst hie
                have HR : Hid (rowOk cols f = true) := by
                  unfold Hid rowOk
                  rw [decide_eq_true hcol, HBD.out, Bool.true_and, Bool.true_and, List.all_eq_true]
                  intro s hs
                  obtain ⟨k, hk, rfl⟩ := List.getElem_of_mem hs
                  exact HALL2.out k hk hk
                clear hBx
                go_wp2_with fail
                go_roundw
                case rel => exact ⟨i + 1, by omega, by go_num, HNX.out HR.out, HB.out.trans (HBX.out.mono HB.out.size)⟩
                case measure => simp [intOf]; omega
        · have yc : ((f.cs.length : Int) == cols) = false := by simpa using hcol
          have HR : Hid (goodR cols F = false) := HNOT.out (by unfold rowOk; rw [decide_eq_false hcol]; rfl)
          go_wp2_with fail
          go_ret
          rw [HW1.out]
          exact ⟨ret_bool HR.out.symm, HB.out.trans (HB1.out.mono HB.out.size)⟩
      · have hie : i = F.length := by omega
        subst hie
        clear hB
        go_wp2_with fail
        go_ret
        exact ⟨ret_bool (by rw [HG.out]; exact (rowOk_all HALL.out).symm), HB.out⟩
  · have HG : Hid (goodR cols F = false) := by unfold Hid goodR; rw [decide_eq_false h0]; rfl
    by_cases g0 : cols < 0
    · have y0 : decide (cols < 0) = true := decide_eq_true g0
      go_enter Tryz.func44, Tryz.ntmps44
      go_wp2_with fail
      go_ret
      exact ⟨ret_bool HG.out.symm, Below.refl _ _⟩
    have y0 : decide (cols < 0) = false := decide_eq_false g0
    by_cases g1 : 20 < cols
    · have y1 : decide (20 < cols) = true := decide_eq_true g1
      go_enter Tryz.func44, Tryz.ntmps44
      go_wp2_with fail
      go_ret
      exact ⟨ret_bool HG.out.symm, Below.refl _ _⟩
    have y1 : decide (20 < cols) = false := decide_eq_false g1
    have y2 : decide ((50 : Int) < (F.length : Int)) = true := by rw [decide_eq_true_iff]; omega
    go_enter Tryz.func44, Tryz.ntmps44
    go_wp2_with fail
    go_ret
    exact ⟨ret_bool HG.out.symm, Below.refl _ _⟩
set_option maxRecDepth 100000 in
set_option maxHeartbeats 4000000 in
theorem goodRows_spec (cols : Int) (v : Value) (F : List Lr) (w : World) (h : RowsAt w v F) (hs : F.length ≤ 1048576 ∧ ∀ f ∈ F, SmallR f) (hc1 : -9223372036854775808 ≤ cols) (hc2 : cols ≤ 9223372036854775807) :
    Calls Tryz.prog 21 #[.int .i64 cols, v] w fun e w' => e = .returned (.bool (goodR cols F)) ∧ Below w.heap.size w w' := by
  obtain ⟨p, c, rfl, l1, m1, r1⟩ := h
  unfold maxLen at m1
  have H1 := hidG r1
  have HSM := hidG hs.2
  have hl := hs.1
  clear r1 hs
  by_cases h0 : 0 ≤ cols ∧ cols ≤ 20 ∧ F.length ≤ 50
  · obtain ⟨a0, a1, a2⟩ := h0
    have HG : Hid (goodR cols F = F.all (rowOk cols)) := by unfold Hid goodR; rw [decide_eq_true ⟨a0, a1, a2⟩, Bool.true_and]
    have y0 : decide (cols < 0) = false := by rw [decide_eq_false_iff_not]; omega
    have y1 : decide (20 < cols) = false := by rw [decide_eq_false_iff_not]; omega
    have y2 : decide ((50 : Int) < (F.length : Int)) = false := by rw [decide_eq_false_iff_not]; omega
    go_enter Tryz.func21, Tryz.ntmps21
    go_wp2_with fail
    go_loopw [22] (fun iv wr => ∃ i : Nat, i ≤ F.length ∧ iv = .int .i64 (i : Nat) ∧ (∀ j (hj : j < F.length), j < i → rowOk cols F[j] = true) ∧ Below w.heap.size w wr) (fun iv _ => F.length - (intOf iv).toNat)
    case atStart => exact ⟨0, Nat.zero_le _, rfl, fun j _ h => absurd h (Nat.not_lt_zero _), Below.refl _ _⟩
    case round =>
      rename World => wo
      obtain ⟨i, hi, rfl, hall, hB⟩ := hrel
      have HALL := hidG hall
      have HB := hidG hB
      clear hall
      by_cases hlt : i < F.length
      · obtain ⟨b, rfl, hb, hA⟩ : ∃ b, p = some ⟨b, 0, none⟩ ∧ b < w.heap.size ∧ ∀ i (h : i < F.length), (∃ va, w.cell? ⟨b, i * 3, none⟩ = some va ∧ StrsAt w va F[i].cs) ∧ w.cell? ⟨b, i * 3 + 1, none⟩ = some (.bool F[i].st) ∧ w.cell? ⟨b, i * 3 + 2, none⟩ = some (.string (strOf F[i].bd)) := by
          rcases H1.out with h | h
          · rw [h] at hlt; exact absurd hlt (Nat.not_lt_zero _)
          · exact h
        obtain ⟨⟨va, k0, hva⟩, k1, k2⟩ := hA i hlt
        rw [← hB.cell (p := ⟨b, i * 3, none⟩) hb] at k0
        rw [← hB.cell (p := ⟨b, i * 3 + 1, none⟩) hb] at k1
        rw [← hB.cell (p := ⟨b, i * 3 + 2, none⟩) hb] at k2
        have HSF := hidG (HSM.out _ (List.getElem_mem hlt))
        have HNOT : Hid (rowOk cols F[i] = false → goodR cols F = false) := fun h => HG.out.trans (rowOk_not hlt h)
        have HNX : Hid (rowOk cols F[i] = true → ∀ j (hj : j < F.length), j < i + 1 → rowOk cols F[j] = true) := fun h j hj hji => by
          by_cases e : j = i
          · subst e; exact h
          · exact HALL.out j hj (by omega)
        obtain ⟨f, hf⟩ : ∃ f, F[i] = f := ⟨_, rfl⟩
        rw [hf] at k1 k2 hva HSF HNOT HNX
        have HVA := hidG (hva.below hB)
        obtain ⟨pa, ca, rfl, va1, va2, va3⟩ := hva
        unfold maxLen at va2
        have HSB : Hid (f.bd.length ≤ 1048576) := HSF.out.2
        have hn8 : f.cs.length ≤ 1048576 := HSF.out.1.1
        obtain ⟨W1, hW1⟩ : ∃ W1, wo.alloc (.cells #[.slice pa f.cs.length ca, .bool f.st, .string (strOf f.bd)] 50) = W1 := ⟨_, rfl⟩
        have HB1 : Hid (Below wo.heap.size wo W1) := by unfold Hid; rw [← hW1]; exact below_alloc _ _
        have HX1 : Hid (Bx W1 wo.heap.size [.slice pa f.cs.length ca, .bool f.st, .string (strOf f.bd)]) := by unfold Hid; rw [← hW1]; exact bx_new wo _ _
        have HW1 := hidG hW1
        clear hf hB hA va3 hW1
        by_cases hcol : (f.cs.length : Int) = cols
        · have yc : ((f.cs.length : Int) == cols) = true := by simpa using hcol
          go_wp2_with fail
          rw [HW1.out]
          refine (l12Text_any f.bd W1 HSB.out).mono ?_
          rintro e w2 ⟨rfl, hb2⟩
          have hx2 := HX1.out.below HX1.out.lt hb2
          obtain ⟨b0, b1, b2⟩ := hx2.c3
          have HB2 : Hid (Below wo.heap.size wo w2) := HB1.out.trans (hb2.mono HB1.out.size)
          clear hb2 hx2
          cases hbd : textOk f.bd with
          | false =>
            have HR : Hid (goodR cols F = false) := HNOT.out (by unfold rowOk; rw [hbd]; simp)
            clear hbd
            go_wp2_with fail
            go_ret
            exact ⟨ret_bool HR.out.symm, HB.out.trans (HB2.out.mono HB.out.size)⟩
          | true =>
            have HBD := hidG hbd
            clear hbd
            go_wp2_with fail
            go_loopw [40] (fun jv wr => ∃ j : Nat, j ≤ f.cs.length ∧ jv = .int .i64 (j : Nat) ∧ (∀ k (hk : k < f.cs.length), k < j → textOk f.cs[k] = true) ∧ Below wo.heap.size wo wr) (fun jv _ => f.cs.length - (intOf jv).toNat)
            case atStart => exact ⟨0, Nat.zero_le _, rfl, fun j _ h => absurd h (Nat.not_lt_zero _), HB2.out⟩
            case round =>
              obtain ⟨j, hj, rfl, hall2, hBx⟩ := hrel
              have HALL2 := hidG hall2
              have HBX := hidG hBx
              clear hall2
              by_cases hjl : j < f.cs.length
              · obtain ⟨pa', ca', e', -, -, hcell⟩ := HVA.out
                simp only [Value.slice.injEq] at e'
                obtain ⟨rfl, -, rfl⟩ := e'
                obtain ⟨b3, rfl, hb3, hc3⟩ : ∃ b3, pa = some ⟨b3, 0, none⟩ ∧ b3 < wo.heap.size ∧ ∀ i (h : i < f.cs.length), wo.cell? ⟨b3, i, none⟩ = some (.string (strOf f.cs[i])) := by
                  rcases hcell with h | h
                  · rw [h] at hjl; exact absurd hjl (Nat.not_lt_zero _)
                  · exact h
                have k3 := hc3 j hjl
                rw [← hBx.cell (p := ⟨b3, j, none⟩) hb3] at k3
                have HSC : Hid (f.cs[j].length ≤ 1048576) := HSF.out.1.2 _ (List.getElem_mem hjl)
                have HN2 : Hid (textOk f.cs[j] = false → rowOk cols f = false) := fun h => by
                  unfold rowOk
                  have : f.cs.all textOk = false := by
                    rw [Bool.eq_false_iff]
                    intro hh
                    have := List.all_eq_true.1 hh f.cs[j] (List.getElem_mem hjl)
                    rw [h] at this
                    cases this
                  rw [this, Bool.and_false]
                have HX2 : Hid (textOk f.cs[j] = true → ∀ k (hk : k < f.cs.length), k < j + 1 → textOk f.cs[k] = true) := fun h k hk hkj => by
                  by_cases e : k = j
                  · subst e; exact h
                  · exact HALL2.out k hk (by omega)
                obtain ⟨t, ht⟩ : ∃ t, f.cs[j] = t := ⟨_, rfl⟩
                rw [ht] at k3 HSC HN2 HX2
                clear ht hc3 hcell hBx
                go_wp2_with fail
                refine (l12Text_any t wr HSC.out).mono ?_
                rintro e w3 ⟨rfl, hb3'⟩
                have HB3 : Hid (Below wo.heap.size wo w3) := HBX.out.trans (hb3'.mono HBX.out.size)
                clear hb3'
                cases htx : textOk t with
                | false =>
                  have HR : Hid (goodR cols F = false) := HNOT.out (HN2.out htx)
                  clear htx
                  go_wp2_with fail
                  go_ret
                  exact ⟨ret_bool HR.out.symm, HB.out.trans (HB3.out.mono HB.out.size)⟩
                | true =>
                  have HT := hidG (HX2.out htx)
                  clear htx
                  go_wp2_with fail
                  go_roundw
                  case rel => exact ⟨j + 1, by omega, by go_num, HT.out, HB3.out⟩
                  case measure => simp [intOf]; omega
              · have hie : j = f.cs.length := by omega
                subst hie
                have HR : Hid (rowOk cols f = true) := by
                  unfold Hid rowOk
                  rw [decide_eq_true hcol, HBD.out, Bool.true_and, Bool.true_and, List.all_eq_true]
                  intro s hs
                  obtain ⟨k, hk, rfl⟩ := List.getElem_of_mem hs
                  exact HALL2.out k hk hk
                clear hBx
                go_wp2_with fail
                go_roundw
                case rel => exact ⟨i + 1, by omega, by go_num, HNX.out HR.out, HB.out.trans (HBX.out.mono HB.out.size)⟩
                case measure => simp [intOf]; omega
        · have yc : ((f.cs.length : Int) == cols) = false := by simpa using hcol
          have HR : Hid (goodR cols F = false) := HNOT.out (by unfold rowOk; rw [decide_eq_false hcol]; rfl)
          go_wp2_with fail
          go_ret
          rw [HW1.out]
          exact ⟨ret_bool HR.out.symm, HB.out.trans (HB1.out.mono HB.out.size)⟩
      · have hie : i = F.length := by omega
        subst hie
        clear hB
        go_wp2_with fail
        go_ret
        exact ⟨ret_bool (by rw [HG.out]; exact (rowOk_all HALL.out).symm), HB.out⟩
  · have HG : Hid (goodR cols F = false) := by unfold Hid goodR; rw [decide_eq_false h0]; rfl
    by_cases g0 : cols < 0
    · have y0 : decide (cols < 0) = true := decide_eq_true g0
      go_enter Tryz.func21, Tryz.ntmps21
      go_wp2_with fail
      go_ret
      exact ⟨ret_bool HG.out.symm, Below.refl _ _⟩
    have y0 : decide (cols < 0) = false := decide_eq_false g0
    by_cases g1 : 20 < cols
    · have y1 : decide (20 < cols) = true := decide_eq_true g1
      go_enter Tryz.func21, Tryz.ntmps21
      go_wp2_with fail
      go_ret
      exact ⟨ret_bool HG.out.symm, Below.refl _ _⟩
    have y1 : decide (20 < cols) = false := decide_eq_false g1
    have y2 : decide ((50 : Int) < (F.length : Int)) = true := by rw [decide_eq_true_iff]; omega
    go_enter Tryz.func21, Tryz.ntmps21
    go_wp2_with fail
    go_ret
    exact ⟨ret_bool HG.out.symm, Below.refl _ _⟩
end Go.Proofs.YtebldkelihmihaaGreatDoor.L
