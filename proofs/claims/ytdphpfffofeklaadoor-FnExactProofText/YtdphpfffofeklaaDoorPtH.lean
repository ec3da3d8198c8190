import Derived.Test.YtdphpfffofeklaaDoorPtG
import Derived.Deep.RegionHeld3
namespace Go.Proofs.YtdphpfffofeklaaDoor.P
open Go.ChangeShapes Go.WideShapes Go.ChangeAt Go.RowKit
open L (strOf strOf_toList strOf_size Tn hidG below_alloc Bx bx_new StrsAt TreeAt strsC strs_at row_below own_lower own_other' up_alloc)
theorem takeD {P : Program} {ops : Array Oper} {Q : Exit → Act → World → Prop} {md : Region.Mode} {S : World → Prop} {i d : Nat} {oi : Oper} {v : Value} {fuel : Nat} {listed : Array Bool} {a : Act} {w : World} (hi : ops[i]? = some oi) (hd : oi.dst = some d)
    (hs : Region.noSelect ops = true) (hf : Region.free md ops listed i = true) (hr : (Region.ready md ops listed).contains i = true)
    (hQ : ∀ c a w, Q (.panic c) (a.put (some d) v) w → Q (.panic c) a w) (hy : YieldsIf P ops S oi v a) (hS : S w)
    (h : wpAnyH P md ops Q S fuel (listed.setIfInBounds i true) (a.put (some d) v) w) : wpAnyH P md ops Q S (fuel + 1) listed a w := by
  rw [← hd] at hQ h
  exact wpAnyH_take hi hs hf hr hQ hy hS h
theorem tk {P : Program} {ops : Array Oper} {Q : Exit → Act → World → Prop} {md : Region.Mode} {S : World → Prop} (i d : Nat) {oi : Oper} {v : Value} {fuel : Nat} {listed : Array Bool} {a : Act} {w : World} (hi : ops[i]? = some oi) (hd : oi.dst = some d)
    (hc : (Region.noSelect ops && (Region.free md ops listed i && (Region.ready md ops listed).contains i)) = true) (hQ : ∀ c a w, Q (.panic c) (a.put (some d) v) w → Q (.panic c) a w) (hy : YieldsIf P ops S oi v a) (hS : S w)
    (h : wpAnyH P md ops Q S fuel (listed.setIfInBounds i true) (a.put (some d) v) w) : wpAnyH P md ops Q S (fuel + 1) listed a w := by
  rw [Bool.and_eq_true, Bool.and_eq_true] at hc
  exact takeD hi hd hc.1 hc.2.1 hc.2.2 hQ hy hS h
theorem wrh {P : Program} {ops : Array Oper} {Q : Exit → Act → World → Prop} {S : World → Prop} (n : Nat) (hn : ops.size = n) {id : Nat} {a : Act} {w : World} (hm : P.follows .mixedOrders = true) (hS : S w.drew) (h : S w.drew → wpAnyH P .any ops Q S n (Array.replicate ops.size false) a w.drew) : (Code.region id ops true).wp P Q a w := by
  subst hn
  exact wp_region_held_drew hm hS h
theorem tkf {P : Program} {ops : Array Oper} {Q : Exit → Act → World → Prop} {md : Region.Mode} {S : World → Prop} (k m : Nat) {fuel : Nat} {oi : Oper} {v : Value} {listed : Array Bool} {a : Act} {w : World} (hi : ops[k - fuel]? = some oi) (hd : oi.dst = some (m - fuel))
    (hc : (Region.noSelect ops && (Region.free md ops listed (k - fuel) && (Region.ready md ops listed).contains (k - fuel))) = true) (hQ : ∀ c a w, Q (.panic c) (a.put (some (m - fuel)) v) w → Q (.panic c) a w) (hy : YieldsIf P ops S oi v a) (hS : S w)
    (h : wpAnyH P md ops Q S fuel (listed.setIfInBounds (k - fuel) true) (a.put (some (m - fuel)) v) w) : wpAnyH P md ops Q S (fuel + 1) listed a w := tk (k - fuel) (m - fuel) hi hd hc hQ hy hS h
theorem strs_new (w : World) (M : List (List UInt8)) (cs : Array Value) (hc : cs = (strsC M).toArray) (k : Nat) (hk : k = M.length) (hm : M.length ≤ 1000000) : StrsAt (w.alloc (.cells cs 9)) (.slice (some ⟨w.heap.size, 0, none⟩) k k) M := by
  subst hk
  subst hc
  refine ⟨_, _, rfl, Nat.le_refl _, by unfold maxLen; omega, .inr ⟨w.heap.size, rfl, by simp, fun i hi => ?_⟩⟩
  rw [World.cell?_alloc_at _ _ _ _ rfl]
  simp [strsC, hi]
theorem tn_branch {f : Tn} (h : 0 ≤ f.col) : tnOk f = (isI f.pl && decide ((f.mu.length : Int) = 0)) ∧ (tnP f).2 = lsT [branchB, Lib.itoa f.col, sgnT f.pl] ∨ ¬ f.col ≤ 9223372036854775807 := by
  by_cases h1 : f.col ≤ 9223372036854775807
  · left
    have e : isLf f = false := by unfold isLf; rw [decide_eq_false (by omega)]; rfl
    refine ⟨?_, ?_⟩
    · unfold tnOk
      rw [e, decide_eq_true h]
      have : f.mu.isEmpty = decide ((f.mu.length : Int) = 0) := by
        rw [Bool.eq_iff_iff, List.isEmpty_iff, decide_eq_true_iff]
        constructor
        · intro x; rw [x]; rfl
        · intro x; exact List.length_eq_zero_iff.1 (by omega)
      rw [this]
      simp [Bool.and_comm]
    · unfold tnP
      rw [e]
      show 40 :: (Lib.join [branchB, sgnT (Lib.itoa f.col), sgnT f.pl] [32] ++ [41]) = _
      rw [itoa_pos h h1]
      rfl
  · exact .inr h1
set_option maxRecDepth 100000 in
set_option maxHeartbeats 8000000 in
theorem nodeText_branch (f : Tn) (va : Value) (w : World) (h : StrsAt w va f.mu) (hf : TnB f) (ht : Tb w) (hc : 0 ≤ f.col) :
    Calls Tryd.prog 44 #[.agg #[.int .i64 f.col, .string (strOf f.pl), va]] w fun e w' => ∃ s : List UInt8, e = .returned (.tuple #[.string (strOf s), .bool (tnOk f)]) ∧ (tnOk f = true → s = (tnP f).2) ∧ Below w.heap.size w w' := by
  have HT := hidG ht
  have HF := hidG hf
  obtain ⟨p, c, rfl, h1, h2, -⟩ := h
  unfold maxLen at h2
  have hpl : f.pl.length ≤ 1048576 := by have := hf.2; unfold wtT at this; omega
  have y : decide (0 ≤ f.col) = true := decide_eq_true hc
  obtain ⟨q1, q2⟩ : tnOk f = (isI f.pl && decide ((f.mu.length : Int) = 0)) ∧ (tnP f).2 = lsT [branchB, Lib.itoa f.col, sgnT f.pl] := (tn_branch hc).resolve_right (fun e => e hf.1.2)
  have hjl : (Lib.join [branchB, Lib.itoa f.col, sgnT f.pl] [32]).length ≤ 140737488355328 := by
    have a1 := join_le [branchB, Lib.itoa f.col, sgnT f.pl]
    have a3 := sgnT_len f.pl
    have a4 := (itoa_isI f.col hf.1.1 hf.1.2).2.1
    have a5 : branchB.length = 6 := rfl
    simp only [List.map_cons, List.map_nil, List.sum_cons, List.sum_nil, List.length_cons, List.length_nil] at a1
    omega
  have HJL := hidG hjl
  rw [q1, q2]
  clear q1 q2 hjl ht
  have hsz : (strOf f.pl).size ≤ maxLen := by rw [strOf_size]; unfold maxLen; omega
  have HSZ := hidG hsz
  have HIB : Hid (isIntB (strOf f.pl) = isI f.pl) := rfl
  obtain ⟨bI, hbI⟩ : ∃ b, isI f.pl = b := ⟨_, rfl⟩
  rw [hbI] at HIB ⊢
  obtain ⟨W1, hW1⟩ : ∃ W1, w.alloc (.cells #[.int .i64 f.col, .string (strOf f.pl), .slice p f.mu.length c] 65) = W1 := ⟨_, rfl⟩
  have HB1 : Hid (Below w.heap.size w W1) := by unfold Hid; rw [← hW1]; exact below_alloc _ _
  have HX1 : Hid (Bx W1 w.heap.size [.int .i64 f.col, .string (strOf f.pl), .slice p f.mu.length c]) := by unfold Hid; rw [← hW1]; exact bx_new w _ _
  have HW1 := hidG hW1
  have HCL : Hid (∀ W, Below W1.heap.size W1 W → W.cell? ⟨w.heap.size, 0, none⟩ = some (.int .i64 f.col) ∧ W.cell? ⟨w.heap.size, 1, none⟩ = some (.string (strOf f.pl)) ∧ W.cell? ⟨w.heap.size, 2, none⟩ = some (.slice p f.mu.length c)) := fun W h => (HX1.out.below HX1.out.lt h).c3
  obtain ⟨b0, -, -⟩ := HX1.out.c3
  clear hW1 hsz hbI hf
  have HBD : Hid (Below W1.heap.size W1 W1.drew) := (Below.refl _ _).drew
  have HTD : Hid (Tb W1.drew) := (HT.out.below HB1.out).below HBD.out
  cases bI with
  | true =>
    go_enter Tryd.func44, Tryd.ntmps44
    go_wp2_with (rw [HW1.out])
    clear b0
    refine wrh 19 rfl (S := fun W => W.cell? ⟨w.heap.size, 0, none⟩ = some (.int .i64 f.col) ∧ W.cell? ⟨w.heap.size, 1, none⟩ = some (.string (strOf f.pl)) ∧ W.cell? ⟨w.heap.size, 2, none⟩ = some (.slice p f.mu.length c)) (by kernel_rfl) (HCL.out _ HBD.out) (fun hHeld => ?_)
    refine tk 0 10 (v := ?_) rfl rfl (by kernel_rfl) (fun _ _ _ h => h) (Or.inl ⟨by rfl, ?_⟩) (by assumption) ?_
    rotate_left
    · (intro w hSw; (try dsimp only at hSw); go_simp; (try with_reducible rfl))
    try simp only [Act.put, List.setIfInBounds_toArray, List.set_cons_zero, List.set_cons_succ]
    refine tk 1 11 (v := ?_) rfl rfl (by kernel_rfl) (fun _ _ _ h => h) (Or.inl ⟨by rfl, ?_⟩) (by assumption) ?_
    rotate_left
    · (intro w hSw; (try dsimp only at hSw); go_simp; (try with_reducible rfl))
    try simp only [Act.put, List.setIfInBounds_toArray, List.set_cons_zero, List.set_cons_succ]
    refine tk 3 13 (v := ?_) rfl rfl (by kernel_rfl) (fun _ _ _ h => h) (Or.inl ⟨by rfl, ?_⟩) (by assumption) ?_
    rotate_left
    · (intro w hSw; (try dsimp only at hSw); go_simp; (try with_reducible rfl))
    try simp only [Act.put, List.setIfInBounds_toArray, List.set_cons_zero, List.set_cons_succ]
    refine tk 4 14 (v := ?_) rfl rfl (by kernel_rfl) (fun _ _ _ h => h) (Or.inl ⟨by rfl, ?_⟩) (by assumption) ?_
    rotate_left
    · (intro w hSw; (try dsimp only at hSw); go_simp; (try with_reducible rfl))
    try simp only [Act.put, List.setIfInBounds_toArray, List.set_cons_zero, List.set_cons_succ]
    refine tk 8 18 (v := ?_) rfl rfl (by kernel_rfl) (fun _ _ _ h => h) (Or.inl ⟨by rfl, ?_⟩) (by assumption) ?_
    rotate_left
    · (intro w hSw; (try dsimp only at hSw); go_simp; (try with_reducible rfl))
    try simp only [Act.put, List.setIfInBounds_toArray, List.set_cons_zero, List.set_cons_succ]
    refine tk 9 19 (v := ?_) rfl rfl (by kernel_rfl) (fun _ _ _ h => h) (Or.inl ⟨by rfl, ?_⟩) (by assumption) ?_
    rotate_left
    · (intro w hSw; (try dsimp only at hSw); go_simp; (try with_reducible rfl))
    try simp only [Act.put, List.setIfInBounds_toArray, List.set_cons_zero, List.set_cons_succ]
    refine wpAnyH_ready (rs := [2]) (by kernel_rfl) (by simp) ?_
    refine AllReadyH.cons rfl (fun K hK => ?_) AllReadyH.nil
    go_simp
    go_at_call 42
    refine (itoa_any f.col W1.drew HF.out.1.1 HF.out.1.2 HTD.out).mono ?_
    rintro e w2 ⟨rfl, hb2⟩
    have HB2 : Hid (Below W1.heap.size W1 w2) := HBD.out.trans (hb2.mono HBD.out.size)
    clear hb2
    go_wp2_with fail
    refine hK.out _ _ (HCL.out _ HB2.out) (fun hHeld => ?_)
    clear hK K
    try simp only [Act.put, List.setIfInBounds_toArray, List.set_cons_zero, List.set_cons_succ]
    refine wpAnyH_ready (rs := [5]) (by kernel_rfl) (by simp) ?_
    refine AllReadyH.cons rfl (fun K hK => ?_) AllReadyH.nil
    go_simp
    go_at_call 41
    refine (signedText_any f.pl _ (by omega)).mono ?_
    rintro e w3 ⟨rfl, rfl⟩
    go_wp2_with fail
    refine hK.out _ _ (HCL.out _ HB2.out) (fun hHeld => ?_)
    clear hK K
    try simp only [Act.put, List.setIfInBounds_toArray, List.set_cons_zero, List.set_cons_succ]
    refine wpAnyH_ready (rs := [6]) (by kernel_rfl) (by simp) ?_
    refine AllReadyH.cons rfl (fun K hK => ?_) AllReadyH.nil
    go_simp
    refine hK.out _ _ (HCL.out _ (up_alloc HB2.out _)) (fun hHeld => ?_)
    clear hK K
    try simp only [Act.put, List.setIfInBounds_toArray, List.set_cons_zero, List.set_cons_succ]
    refine wpAnyH_ready (rs := [7]) (by kernel_rfl) (by simp) ?_
    refine AllReadyH.cons rfl (fun K hK => ?_) AllReadyH.nil
    go_simp
    go_at_call 31
    refine (listText_any _ [branchB, Lib.itoa f.col, sgnT f.pl] _ (strs_new _ _ _ rfl _ rfl (by simp)) HJL.out (by simp)).mono ?_
    rintro e w4 ⟨rfl, hb4⟩
    have HB4 : Hid (Below W1.heap.size W1 w4) := (up_alloc HB2.out _).trans (hb4.mono (up_alloc HB2.out _).size)
    clear hb4
    go_wp2_with fail
    refine hK.out _ _ (HCL.out _ HB4.out) (fun hHeld => ?_)
    clear hK K
    try simp only [Act.put, List.setIfInBounds_toArray, List.set_cons_zero, List.set_cons_succ]
    refine wpAnyH_ready (rs := [10]) (by kernel_rfl) (by simp) ?_
    refine AllReadyH.cons rfl (fun K hK => ?_) AllReadyH.nil
    go_simp
    go_at_call 57
    refine (isInt_impl _ _ HSZ.out).mono ?_
    rintro e w5 ⟨rfl, rfl⟩
    rw [HIB.out]
    go_wp2_with fail
    refine hK.out _ _ (HCL.out _ HB4.out) (fun hHeld => ?_)
    clear hK K
    try simp only [Act.put, List.setIfInBounds_toArray, List.set_cons_zero, List.set_cons_succ]
    refine tk 11 21 (v := ?_) rfl rfl (by kernel_rfl) (fun _ _ _ h => h) (Or.inl ⟨by rfl, ?_⟩) (by assumption) ?_
    rotate_left
    · (intro w hSw; (try dsimp only at hSw); go_simp; (try with_reducible rfl))
    try simp only [Act.put, List.setIfInBounds_toArray, List.set_cons_zero, List.set_cons_succ]
    refine tk 12 22 (v := ?_) rfl rfl (by kernel_rfl) (fun _ _ _ h => h) (Or.inl ⟨by rfl, ?_⟩) (by assumption) ?_
    rotate_left
    · (intro w hSw; (try dsimp only at hSw); go_simp; (try with_reducible rfl))
    try simp only [Act.put, List.setIfInBounds_toArray, List.set_cons_zero, List.set_cons_succ]
    refine tk 13 23 (v := ?_) rfl rfl (by kernel_rfl) (fun _ _ _ h => h) (Or.inl ⟨by rfl, ?_⟩) (by assumption) ?_
    rotate_left
    · (intro w hSw; (try dsimp only at hSw); go_simp; (try with_reducible rfl))
    try simp only [Act.put, List.setIfInBounds_toArray, List.set_cons_zero, List.set_cons_succ]
    refine tk 14 24 (v := ?_) rfl rfl (by kernel_rfl) (fun _ _ _ h => h) (Or.inl ⟨by rfl, ?_⟩) (by assumption) ?_
    rotate_left
    · (intro w hSw; (try dsimp only at hSw); go_simp; (try with_reducible rfl))
    try simp only [Act.put, List.setIfInBounds_toArray, List.set_cons_zero, List.set_cons_succ]
    refine tk 15 25 (v := ?_) rfl rfl (by kernel_rfl) (fun _ _ _ h => h) (Or.inl ⟨by rfl, ?_⟩) (by assumption) ?_
    rotate_left
    · (intro w hSw; (try dsimp only at hSw); go_simp; (try with_reducible rfl))
    try simp only [Act.put, List.setIfInBounds_toArray, List.set_cons_zero, List.set_cons_succ]
    refine tk 16 26 (v := ?_) rfl rfl (by kernel_rfl) (fun _ _ _ h => h) (Or.inl ⟨by rfl, ?_⟩) (by assumption) ?_
    rotate_left
    · (intro w hSw; (try dsimp only at hSw); go_simp; (try with_reducible rfl))
    try simp only [Act.put, List.setIfInBounds_toArray, List.set_cons_zero, List.set_cons_succ]
    refine tk 17 2 (v := ?_) rfl rfl (by kernel_rfl) (fun _ _ _ h => h) (Or.inl ⟨by rfl, ?_⟩) (by assumption) ?_
    rotate_left
    · (intro w hSw; (try dsimp only at hSw); go_simp; (try with_reducible rfl))
    try simp only [Act.put, List.setIfInBounds_toArray, List.set_cons_zero, List.set_cons_succ]
    refine tk 18 3 (v := ?_) rfl rfl (by kernel_rfl) (fun _ _ _ h => h) (Or.inl ⟨by rfl, ?_⟩) (by assumption) ?_
    rotate_left
    · (intro w hSw; (try dsimp only at hSw); go_simp; (try with_reducible rfl))
    try simp only [Act.put, List.setIfInBounds_toArray, List.set_cons_zero, List.set_cons_succ]
    refine wpAnyH_done (by kernel_rfl) ?_ _
    go_wp2_with fail
    refine bodyPost_ret (v := .tuple #[.string (strOf (lsT [branchB, Lib.itoa f.col, sgnT f.pl])), .bool ((f.mu.length : Int) == 0)]) ?_ rfl ⟨lsT [branchB, Lib.itoa f.col, sgnT f.pl], by rw [Bool.true_and]; rfl, fun _ => rfl, HB1.out.trans (HB4.out.mono HB1.out.size)⟩
    simp [results, Tryd.results44, go_sem]
  | false =>
    go_enter Tryd.func44, Tryd.ntmps44
    go_wp2_with (rw [HW1.out])
    clear b0
    refine wrh 19 rfl (S := fun W => W.cell? ⟨w.heap.size, 0, none⟩ = some (.int .i64 f.col) ∧ W.cell? ⟨w.heap.size, 1, none⟩ = some (.string (strOf f.pl)) ∧ W.cell? ⟨w.heap.size, 2, none⟩ = some (.slice p f.mu.length c)) (by kernel_rfl) (HCL.out _ HBD.out) (fun hHeld => ?_)
    refine tk 0 10 (v := ?_) rfl rfl (by kernel_rfl) (fun _ _ _ h => h) (Or.inl ⟨by rfl, ?_⟩) (by assumption) ?_
    rotate_left
    · (intro w hSw; (try dsimp only at hSw); go_simp; (try with_reducible rfl))
    try simp only [Act.put, List.setIfInBounds_toArray, List.set_cons_zero, List.set_cons_succ]
    refine tk 1 11 (v := ?_) rfl rfl (by kernel_rfl) (fun _ _ _ h => h) (Or.inl ⟨by rfl, ?_⟩) (by assumption) ?_
    rotate_left
    · (intro w hSw; (try dsimp only at hSw); go_simp; (try with_reducible rfl))
    try simp only [Act.put, List.setIfInBounds_toArray, List.set_cons_zero, List.set_cons_succ]
    refine tk 3 13 (v := ?_) rfl rfl (by kernel_rfl) (fun _ _ _ h => h) (Or.inl ⟨by rfl, ?_⟩) (by assumption) ?_
    rotate_left
    · (intro w hSw; (try dsimp only at hSw); go_simp; (try with_reducible rfl))
    try simp only [Act.put, List.setIfInBounds_toArray, List.set_cons_zero, List.set_cons_succ]
    refine tk 4 14 (v := ?_) rfl rfl (by kernel_rfl) (fun _ _ _ h => h) (Or.inl ⟨by rfl, ?_⟩) (by assumption) ?_
    rotate_left
    · (intro w hSw; (try dsimp only at hSw); go_simp; (try with_reducible rfl))
    try simp only [Act.put, List.setIfInBounds_toArray, List.set_cons_zero, List.set_cons_succ]
    refine tk 8 18 (v := ?_) rfl rfl (by kernel_rfl) (fun _ _ _ h => h) (Or.inl ⟨by rfl, ?_⟩) (by assumption) ?_
    rotate_left
    · (intro w hSw; (try dsimp only at hSw); go_simp; (try with_reducible rfl))
    try simp only [Act.put, List.setIfInBounds_toArray, List.set_cons_zero, List.set_cons_succ]
    refine tk 9 19 (v := ?_) rfl rfl (by kernel_rfl) (fun _ _ _ h => h) (Or.inl ⟨by rfl, ?_⟩) (by assumption) ?_
    rotate_left
    · (intro w hSw; (try dsimp only at hSw); go_simp; (try with_reducible rfl))
    try simp only [Act.put, List.setIfInBounds_toArray, List.set_cons_zero, List.set_cons_succ]
    refine wpAnyH_ready (rs := [2]) (by kernel_rfl) (by simp) ?_
    refine AllReadyH.cons rfl (fun K hK => ?_) AllReadyH.nil
    go_simp
    go_at_call 42
    refine (itoa_any f.col W1.drew HF.out.1.1 HF.out.1.2 HTD.out).mono ?_
    rintro e w2 ⟨rfl, hb2⟩
    have HB2 : Hid (Below W1.heap.size W1 w2) := HBD.out.trans (hb2.mono HBD.out.size)
    clear hb2
    go_wp2_with fail
    refine hK.out _ _ (HCL.out _ HB2.out) (fun hHeld => ?_)
    clear hK K
    try simp only [Act.put, List.setIfInBounds_toArray, List.set_cons_zero, List.set_cons_succ]
    refine wpAnyH_ready (rs := [5]) (by kernel_rfl) (by simp) ?_
    refine AllReadyH.cons rfl (fun K hK => ?_) AllReadyH.nil
    go_simp
    go_at_call 41
    refine (signedText_any f.pl _ (by omega)).mono ?_
    rintro e w3 ⟨rfl, rfl⟩
    go_wp2_with fail
    refine hK.out _ _ (HCL.out _ HB2.out) (fun hHeld => ?_)
    clear hK K
    try simp only [Act.put, List.setIfInBounds_toArray, List.set_cons_zero, List.set_cons_succ]
    refine wpAnyH_ready (rs := [6]) (by kernel_rfl) (by simp) ?_
    refine AllReadyH.cons rfl (fun K hK => ?_) AllReadyH.nil
    go_simp
    refine hK.out _ _ (HCL.out _ (up_alloc HB2.out _)) (fun hHeld => ?_)
    clear hK K
    try simp only [Act.put, List.setIfInBounds_toArray, List.set_cons_zero, List.set_cons_succ]
    refine wpAnyH_ready (rs := [7]) (by kernel_rfl) (by simp) ?_
    refine AllReadyH.cons rfl (fun K hK => ?_) AllReadyH.nil
    go_simp
    go_at_call 31
    refine (listText_any _ [branchB, Lib.itoa f.col, sgnT f.pl] _ (strs_new _ _ _ rfl _ rfl (by simp)) HJL.out (by simp)).mono ?_
    rintro e w4 ⟨rfl, hb4⟩
    have HB4 : Hid (Below W1.heap.size W1 w4) := (up_alloc HB2.out _).trans (hb4.mono (up_alloc HB2.out _).size)
    clear hb4
    go_wp2_with fail
    refine hK.out _ _ (HCL.out _ HB4.out) (fun hHeld => ?_)
    clear hK K
    try simp only [Act.put, List.setIfInBounds_toArray, List.set_cons_zero, List.set_cons_succ]
    refine wpAnyH_ready (rs := [10]) (by kernel_rfl) (by simp) ?_
    refine AllReadyH.cons rfl (fun K hK => ?_) AllReadyH.nil
    go_simp
    go_at_call 57
    refine (isInt_impl _ _ HSZ.out).mono ?_
    rintro e w5 ⟨rfl, rfl⟩
    rw [HIB.out]
    go_wp2_with fail
    refine hK.out _ _ (HCL.out _ HB4.out) (fun hHeld => ?_)
    clear hK K
    try simp only [Act.put, List.setIfInBounds_toArray, List.set_cons_zero, List.set_cons_succ]
    refine tk 11 21 (v := ?_) rfl rfl (by kernel_rfl) (fun _ _ _ h => h) (Or.inl ⟨by rfl, ?_⟩) (by assumption) ?_
    rotate_left
    · (intro w hSw; (try dsimp only at hSw); go_simp; (try with_reducible rfl))
    try simp only [Act.put, List.setIfInBounds_toArray, List.set_cons_zero, List.set_cons_succ]
    refine tk 12 22 (v := undef) rfl rfl (by kernel_rfl) (fun _ _ _ h => h) (Or.inr ⟨by rfl, rfl⟩) (by assumption) ?_
    try simp only [Act.put, List.setIfInBounds_toArray, List.set_cons_zero, List.set_cons_succ]
    refine tk 13 23 (v := undef) rfl rfl (by kernel_rfl) (fun _ _ _ h => h) (Or.inr ⟨by rfl, rfl⟩) (by assumption) ?_
    try simp only [Act.put, List.setIfInBounds_toArray, List.set_cons_zero, List.set_cons_succ]
    refine tk 14 24 (v := undef) rfl rfl (by kernel_rfl) (fun _ _ _ h => h) (Or.inr ⟨by rfl, rfl⟩) (by assumption) ?_
    try simp only [Act.put, List.setIfInBounds_toArray, List.set_cons_zero, List.set_cons_succ]
    refine tk 15 25 (v := undef) rfl rfl (by kernel_rfl) (fun _ _ _ h => h) (Or.inr ⟨by rfl, rfl⟩) (by assumption) ?_
    try simp only [Act.put, List.setIfInBounds_toArray, List.set_cons_zero, List.set_cons_succ]
    refine tk 16 26 (v := ?_) rfl rfl (by kernel_rfl) (fun _ _ _ h => h) (Or.inl ⟨by rfl, ?_⟩) (by assumption) ?_
    rotate_left
    · (intro w hSw; (try dsimp only at hSw); go_simp; (try with_reducible rfl))
    try simp only [Act.put, List.setIfInBounds_toArray, List.set_cons_zero, List.set_cons_succ]
    refine tk 17 2 (v := ?_) rfl rfl (by kernel_rfl) (fun _ _ _ h => h) (Or.inl ⟨by rfl, ?_⟩) (by assumption) ?_
    rotate_left
    · (intro w hSw; (try dsimp only at hSw); go_simp; (try with_reducible rfl))
    try simp only [Act.put, List.setIfInBounds_toArray, List.set_cons_zero, List.set_cons_succ]
    refine tk 18 3 (v := ?_) rfl rfl (by kernel_rfl) (fun _ _ _ h => h) (Or.inl ⟨by rfl, ?_⟩) (by assumption) ?_
    rotate_left
    · (intro w hSw; (try dsimp only at hSw); go_simp; (try with_reducible rfl))
    try simp only [Act.put, List.setIfInBounds_toArray, List.set_cons_zero, List.set_cons_succ]
    refine wpAnyH_done (by kernel_rfl) ?_ _
    go_wp2_with fail
    refine bodyPost_ret (v := .tuple #[.string (strOf (lsT [branchB, Lib.itoa f.col, sgnT f.pl])), .bool false]) ?_ rfl ⟨lsT [branchB, Lib.itoa f.col, sgnT f.pl], by rw [Bool.false_and], fun _ => rfl, HB1.out.trans (HB4.out.mono HB1.out.size)⟩
    simp [results, Tryd.results44, go_sem]
end Go.Proofs.YtdphpfffofeklaaDoor.P
