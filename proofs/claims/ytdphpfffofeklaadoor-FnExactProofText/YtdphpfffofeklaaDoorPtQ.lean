import Derived.Test.YtdphpfffofeklaaDoorPtP
namespace Go.Proofs.YtdphpfffofeklaaDoor.P
open Go.ChangeShapes Go.WideShapes Go.ChangeAt Go.RowKit
open T (Nd)
open L (strOf strOf_toList strOf_size Tn hidG below_alloc Bx bx_new StrsAt TreeAt strsC strs_at row_below own_lower own_other' own_base up_alloc)
theorem szN_one (n : Nd) (h : n.kind ≠ 1) : szN [n] = n.text.size := by rw [szN_cons, if_neg h]; rfl
theorem intN_sz {s : List UInt8} (h : ngL s = true) : szN (intN s) = 3 + s.tail.length ∧ intN s = [listN 2, nameN [45], numN s.tail] := by
  have e : intN s = [listN 2, nameN [45], numN s.tail] := by unfold intN; rw [if_pos h]
  refine ⟨?_, e⟩
  rw [e, szN_cons, szN_cons, szN_cons, if_pos (show (listN 2).kind = 1 from rfl), if_neg (show (nameN [45]).kind ≠ 1 by decide), if_neg (show (numN s.tail).kind ≠ 1 from (by decide : (3 : Int) ≠ 1))]
  show 2 + ((strOf [45]).size + ((strOf s.tail).size + 0)) = _
  rw [strOf_size, strOf_size]
  simp only [List.length_cons, List.length_nil]
  omega
theorem intP_sz {s : List UInt8} (h : ngL s = false) : szN (intN s) = s.length ∧ intN s = [numN s] := by
  have e : intN s = [numN s] := by unfold intN; rw [h]; rfl
  refine ⟨?_, e⟩
  rw [e, szN_one _ (by decide : (3 : Int) ≠ 1)]
  exact strOf_size s
theorem head_no {s : List UInt8} (h : ngL s = false) (h0 : 0 < (strOf s).size) : ((((strOf s)[0]'h0).toNat : Int) != 45) = true := by
  rw [bne_iff_ne]
  intro e
  cases s with
  | nil => simp [strOf_size] at h0
  | cons c r =>
    have e' : c.toNat = 45 := by
      have : (strOf (c :: r))[0]'h0 = c := rfl
      rw [this] at e
      omega
    unfold ngL at h
    rw [decide_eq_false_iff_not] at h
    exact h (by simp only [List.head?_cons, Option.some.injEq]; exact UInt8.toNat_inj.1 (by rw [e']; rfl))
theorem head_yes {s : List UInt8} (h : ngL s = true) (h0 : 0 < (strOf s).size) : ((((strOf s)[0]'h0).toNat : Int) != 45) = false := by
  rw [bne_eq_false_iff_eq]
  cases s with
  | nil => simp [strOf_size] at h0
  | cons c r =>
    have : (strOf (c :: r))[0]'h0 = c := rfl
    rw [this]
    unfold ngL at h
    have := of_decide_eq_true h
    simp only [List.head?_cons, Option.some.injEq] at this
    rw [this]
    rfl
set_option maxRecDepth 100000 in
set_option maxHeartbeats 4000000 in
theorem int_any (kb : Nat) (s : List UInt8) (ns : List Nd) (bad : Bool) (sz : Nat) (w : World) (h : Ws kb ns bad sz w) (hn : ns.length ≤ 800000000) (hs : sz ≤ 800000000) (hl : s.length ≤ 1048576) :
    Calls Tryd.prog 22 #[.pointer (some ⟨kb, 0, none⟩), .string (strOf s)] w fun e w' => e = .returned (.tuple #[]) ∧ (if isI s then Ws kb (ns ++ intN s) bad (sz + szN (intN s)) w' else Ws kb ns true sz w') ∧ Fr kb w w' := by
  have HH := hidG h
  have hz : (strOf s).size ≤ maxLen := by rw [strOf_size]; unfold maxLen; omega
  have HSZ := hidG hz
  have HIB : Hid (isIntB (strOf s) = isI s) := rfl
  have hss : (strOf s).size = s.length := strOf_size s
  have HE := hidG (dgs_list s)
  cases hI : isI s with
  | false =>
    rw [hI] at HIB
    obtain ⟨v, hx, ho⟩ := h.ex
    obtain ⟨c0, c1, c2⟩ := hx.c3
    have f1 := hx.frozen 1
    have HP : Hid (Ws kb ns true sz (w.setCell ⟨kb, 1, none⟩ (.bool true))) := ⟨v, hx.set 1 _, ownsRow_setCell_below ho (a := ⟨kb, 1, none⟩) (Nat.lt_succ_self _) _⟩
    clear hx ho hI h hz
    go_enter Tryd.func22, Tryd.ntmps22
    go_wp2_with (go_at_call 36; refine (isInt_spec _ _ HSZ.out).mono ?_; rintro e w5 ⟨rfl, rfl⟩; rw [HIB.out])
    exact bodyPost_ret (results_none rfl _ _ _) rfl ⟨rfl, HP.out, (Fr.refl _ _).set _⟩
  | true =>
    rw [hI] at HIB
    obtain ⟨q0, q1, q2, -⟩ := isI_dig hI
    have hpos : 0 < s.length := by
      have := dgL_len s
      have := List.length_pos_iff.2 q0
      omega
    have h0 : 0 < (strOf s).size := by omega
    clear hI h hz
    cases hn' : ngL s with
    | false =>
      obtain ⟨e1, e2⟩ := intP_sz hn'
      have y : ((((strOf s)[0]'h0).toNat : Int) != 45) = true := head_no hn' h0
      have HE1 := hidG e1
      have HE2 := hidG e2
      clear e1 e2 hn' q0 q1 q2
      go_enter Tryd.func22, Tryd.ntmps22
      go_wp2_with (go_at_call 36; refine (isInt_spec _ _ HSZ.out).mono ?_; rintro e w5 ⟨rfl, rfl⟩; rw [HIB.out])
      refine (leaf_any kb 3 (strOf s) ns bad sz w5 HH.out (by omega) (by omega) (by omega)).mono ?_
      rintro e w2 ⟨rfl, hw2, hb2⟩
      have HW2 := hidG hw2
      have HB2 := hidG hb2
      clear hw2 hb2
      go_wp2_with fail
      refine bodyPost_ret (results_none rfl _ _ _) rfl ⟨rfl, ?_, HB2.out⟩
      have := HW2.out
      rw [hss] at this
      rw [HE1.out, HE2.out]
      exact this
    | true =>
      obtain ⟨e1, e2⟩ := intN_sz hn'
      have y : ((((strOf s)[0]'h0).toNat : Int) != 45) = false := head_yes hn' h0
      have HE1 := hidG e1
      have HE2 := hidG e2
      have HX : Hid ((strOf s).extract 1 s.length = strOf s.tail) := by
        unfold Hid
        apply ByteArray.ext
        rw [ByteArray.data_extract]
        apply Array.ext'
        simp [L.strOf]
        rw [List.take_of_length_le (by simp)]
      clear e1 e2 hn' q0 q1 q2
      go_enter Tryd.func22, Tryd.ntmps22
      go_wp2_with (go_at_call 36; refine (isInt_spec _ _ HSZ.out).mono ?_; rintro e w5 ⟨rfl, rfl⟩; rw [HIB.out])
      refine (list_any kb 2 ns bad sz w5 HH.out (by omega) (by omega)).mono ?_
      rintro e w2 ⟨rfl, hw2, hb2⟩
      have HW2 := hidG hw2
      have HB2 := hidG hb2
      clear hw2 hb2
      go_wp2_with fail
      refine (leaf_any kb 2 ⟨#[45]⟩ (ns ++ [listN 2]) bad (sz + 2) w2 HW2.out (by simp; omega) (by omega) (by decide)).mono ?_
      rintro e w3 ⟨rfl, hw3, hb3⟩
      have HW3 := hidG hw3
      have HB3 : Hid (Fr kb w5 w3) := HB2.out.trans hb3
      clear hw3 hb3 HW2 HB2
      go_wp2_with fail
      rw [HX.out]
      refine (leaf_any kb 3 (strOf s.tail) ((ns ++ [listN 2]) ++ [⟨2, ⟨#[45]⟩, 0⟩]) bad (sz + 2 + (⟨#[45]⟩ : ByteArray).size) w3 HW3.out (by simp; omega) (by show sz + 2 + 1 ≤ _; omega) (by rw [strOf_size]; simp; omega)).mono ?_
      rintro e w4 ⟨rfl, hw4, hb4⟩
      have HW4 := hidG hw4
      have HB4 : Hid (Fr kb w5 w4) := HB3.out.trans hb4
      clear hw4 hb4 HW3 HB3
      go_wp2_with fail
      refine bodyPost_end (results_none rfl _ _ _) rfl ⟨rfl, ?_, HB4.out⟩
      have := HW4.out
      rw [HE1.out, HE2.out]
      rw [strOf_size, show sz + 2 + (⟨#[45]⟩ : ByteArray).size + s.tail.length = sz + (3 + s.tail.length) by (have e : (⟨#[45]⟩ : ByteArray).size = 1 := rfl); omega] at this
      simp only [List.append_assoc, List.cons_append, List.nil_append] at this
      exact this
end Go.Proofs.YtdphpfffofeklaaDoor.P
