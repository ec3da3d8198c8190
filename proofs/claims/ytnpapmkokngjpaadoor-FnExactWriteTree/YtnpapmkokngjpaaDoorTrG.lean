import Derived.Test.YtnpapmkokngjpaaDoorTrLw
namespace Go.Proofs.YtnpapmkokngjpaaDoor
open Go.ChangeShapes Go.WideShapes Go.ChangeAt Go.RowKit
set_option maxRecDepth 100000 in
set_option maxHeartbeats 4000000 in
theorem fitsTogether_many (p : Option Addr) (n c : Nat) (w : World) (h : 8000 < n) :
    Calls Tryd.prog 18 #[.slice p n c] w fun e w' => e = .returned (.bool false) ∧ w' = w := by
  have z : decide ((8000 : Int) < (n : Int)) = true := by rw [decide_eq_true_iff]; omega
  clear h
  go_enter Tryd.func18, Tryd.ntmps18
  go_wp2_with fail
  go_ret
  exact ⟨rfl, rfl⟩
set_option maxRecDepth 100000 in
set_option maxHeartbeats 4000000 in
theorem fitsTogether_none (p : Option Addr) (c : Nat) (w : World) :
    Calls Tryd.prog 18 #[.slice p 0 c] w fun e w' => e = .returned (.bool true) ∧ Below w.heap.size w w' := by
  go_enter Tryd.func18, Tryd.ntmps18
  go_wp2_with fail
  go_loop [3, 12] (fun m i => m = .int .i64 0 ∧ i = .int .i64 0) (fun _ _ => 0)
  case atStart => exact ⟨rfl, rfl⟩
  case round =>
    obtain ⟨rfl, rfl⟩ := hrel
    go_wp2_with fail
    go_ret
    exact ⟨rfl, below_alloc _ _⟩
theorem fitsTogether_any (v : Value) (ns : List (Nd × Int)) (mx : Int) (w : World) (h : IsNodes w v ns) (hmx : w.cell? ⟨0, 0, none⟩ = some (.int .i64 mx)) (hg : 0 < w.heap.size) :
    Calls Tryd.prog 18 #[v] w fun e w' => e = .returned (.bool (fits (ns.map Prod.fst))) ∧ Below w.heap.size w w' := by
  obtain ⟨p, c, rfl, hc, hm, h⟩ := h
  by_cases h8 : 8000 < ns.length
  · refine (fitsTogether_many p ns.length c w h8).mono ?_
    rintro e w' ⟨rfl, rfl⟩
    exact ⟨by rw [fits_many h8], Below.refl _ _⟩
  rcases h with rfl | ⟨b, rfl, hb, hN⟩
  · exact fitsTogether_none p c w
  · rw [fits_few (by omega)]
    exact fitsTogether_row b c ns mx w (by omega) hc hm hb hN hmx hg
set_option maxRecDepth 100000 in
set_option maxHeartbeats 4000000 in
theorem rowText_none (p : Option Addr) (c : Nat) (w : World) :
    Calls Tryd.prog 19 #[.slice p 0 c] w fun e w' => e = .returned (.string ⟨#[]⟩) ∧ Below w.heap.size w w' := by
  go_enter Tryd.func19, Tryd.ntmps19
  go_wp2_with fail
  go_loop [10] (fun i => i = .int .i64 0) (fun _ => 0)
  case atStart => rfl
  case round =>
    subst hrel
    have HD := hidG (builderF_below (builderF_new w) (below_alloc _ (.cells #[.slice none 0 0] 64)))
    go_wp2_with (first | (go_at_call 42; refine (builderString_k w.heap.size w.heap.size [] _ HD.out (by simp; omega)).mono ?_; rintro e w1 ⟨rfl, hb1⟩; have HB1 := hidG hb1; clear hb1))
    go_ret
    exact ⟨rfl, ((below_alloc w _).alloc (by simp) _).trans HB1.out⟩
theorem fits_row {ns : List (Nd × Int)} (h : fits (ns.map Prod.fst) = true) : ns.length ≤ 8000 ∧ fitF (ns.map Prod.fst) 0 [] = true := by
  unfold fits at h
  rw [Bool.and_eq_true, decide_eq_true_eq] at h
  exact ⟨by simpa using h.1, h.2⟩
theorem rowText_any (v : Value) (ns : List (Nd × Int)) (mx : Int) (w : World) (h : IsNodes w v ns) (hmx : w.cell? ⟨0, 0, none⟩ = some (.int .i64 mx)) (hg : 0 < w.heap.size) (hf : fits (ns.map Prod.fst) = true) :
    Calls Tryd.prog 19 #[v] w fun e w' => e = .returned (.string (strOf (rowI (ns.map Prod.fst) []))) ∧ Below w.heap.size w w' := by
  obtain ⟨p, c, rfl, hc, hm, h⟩ := h
  obtain ⟨h8, hf⟩ := fits_row hf
  rcases h with rfl | ⟨b, rfl, hb, hN⟩
  · exact rowText_none p c w
  · exact rowText_row b c ns mx w h8 hc hm hb hN hmx hg hf
set_option maxRecDepth 100000 in
set_option maxHeartbeats 4000000 in
theorem l3Write_none (p : Option Addr) (c : Nat) (w : World) :
    Calls Tryd.prog 17 #[.slice p 0 c] w fun e w' => e = .returned (.string ⟨#[]⟩) ∧ Below w.heap.size w w' := by
  have hcv := conv_any (base := 0) (W := w) (v := .slice none 0 0) (l := []) ⟨rfl, .inl ⟨rfl, rfl⟩⟩
  rw [show strOf [] = (⟨#[]⟩ : ByteArray) from rfl] at hcv
  go_enter Tryd.func17, Tryd.ntmps17
  go_wp2_with fail
  go_loop [3, 4, 9] (fun a b i => a = .slice none 0 0 ∧ b = .slice none 0 0 ∧ i = .int .i64 0) (fun _ _ _ => 0)
  case atStart => exact ⟨rfl, rfl, rfl⟩
  case round =>
    obtain ⟨rfl, rfl, rfl⟩ := hrel
    go_wp2_with fail
    go_ret
    exact ⟨rfl, Below.refl _ _⟩
theorem l3Write_any (v : Value) (ns : List (Nd × Int)) (w : World) (h : IsNodes w v ns) (hf : fits (ns.map Prod.fst) = true) :
    Calls Tryd.prog 17 #[v] w fun e w' => e = .returned (.string (strOf (rowI (ns.map Prod.fst) []))) ∧ Below w.heap.size w w' := by
  obtain ⟨p, c, rfl, hc, hm, h⟩ := h
  obtain ⟨h8, hf⟩ := fits_row hf
  rcases h with rfl | ⟨b, rfl, hb, hN⟩
  · exact l3Write_none p c w
  · rw [← rowS_eq hf]
    exact l3Write_row b c ns w h8 hc hm hb hN hf
theorem IsNodes.below {w w' : World} {v : Value} {ns : List (Nd × Int)} (h : IsNodes w v ns) (hb : Below w.heap.size w w') : IsNodes w' v ns := by
  obtain ⟨p, c, rfl, hc, hm, h⟩ := h
  refine ⟨p, c, rfl, hc, hm, ?_⟩
  rcases h with h | ⟨b, rfl, hlt, hN⟩
  · exact .inl h
  · refine .inr ⟨b, rfl, Nat.lt_of_lt_of_le hlt hb.size, fun i hi => ?_⟩
    obtain ⟨⟨k0, k1, k2, k3⟩, h2⟩ := hN i hi
    exact ⟨⟨(hb.cell (p := ⟨b, i * 4, none⟩) hlt).trans k0, (hb.cell (p := ⟨b, i * 4 + 1, none⟩) hlt).trans k1, (hb.cell (p := ⟨b, i * 4 + 2, none⟩) hlt).trans k2, (hb.cell (p := ⟨b, i * 4 + 3, none⟩) hlt).trans k3⟩, h2⟩
/-- What both sides answer. -/
def goodT (ns : List (Nd × Int)) : Bool := fits (ns.map Prod.fst) && decide ((rowI (ns.map Prod.fst) []).length ≤ 20000)
def writeT (ns : List (Nd × Int)) : ByteArray := if fits (ns.map Prod.fst) then strOf (rowI (ns.map Prod.fst) []) else ⟨#[]⟩
theorem strOf_size (l : List UInt8) : (strOf l).size = l.length := by rw [Lib.size_eq, strOf_toList]
set_option maxRecDepth 100000 in
set_option maxHeartbeats 4000000 in
theorem implGood_any (v : Value) (ns : List (Nd × Int)) (mx : Int) (w : World) (h : IsNodes w v ns) (hmx : w.cell? ⟨0, 0, none⟩ = some (.int .i64 mx)) (hg : 0 < w.heap.size) :
    Calls Tryd.prog 8 #[v] w fun e w' => e = .returned (.bool (goodT ns)) ∧ Below w.heap.size w w' := by
  obtain ⟨T, hT⟩ : ∃ T, strOf (rowI (ns.map Prod.fst) []) = T := ⟨_, rfl⟩
  have hTs : T.size = (rowI (ns.map Prod.fst) []).length := by rw [← hT, strOf_size]
  have HT := hidG hT
  have HG : Hid (goodT ns = (fits (ns.map Prod.fst) && decide (T.size ≤ 20000))) := by unfold Hid; rw [hTs]; rfl
  clear hT hTs
  by_cases hf : fits (ns.map Prod.fst) = true
  · have HF := hidG hf
    clear hf
    by_cases hs : T.size ≤ 20000
    · have HE : Hid (goodT ns = true) := by unfold Hid; rw [HG.out, HF.out, decide_eq_true hs]; rfl
      have z : decide ((T.size : Int) ≤ 20000) = true := by rw [decide_eq_true_iff]; omega
      clear hs
      go_enter Tryd.func8, Tryd.ntmps8
      go_wp2_with (first | (go_at_call 18; refine (fitsTogether_any v ns mx _ h hmx hg).mono ?_; rintro e w1 ⟨rfl, hb1⟩; rw [HF.out]; have HB1 := hidG hb1; have HN1 := hidG (h.below hb1); have HM1 : Hid (w1.cell? ⟨0, 0, none⟩ = some (.int .i64 mx)) := ((hb1.cell (p := ⟨0, 0, none⟩) hg).trans hmx); have hg1 : 0 < w1.heap.size := Nat.lt_of_lt_of_le hg hb1.size; clear hb1) | (go_at_call 19; refine (rowText_any v ns mx _ HN1.out HM1.out hg1 HF.out).mono ?_; rintro e w2 ⟨rfl, hb2⟩; rw [HT.out]; have HB2 : Hid (Below w.heap.size w w2) := HB1.out.trans (hb2.mono HB1.out.size); clear hb2))
      go_ret
      exact ⟨ret_bool HE.out.symm, HB2.out⟩
    · have HE : Hid (goodT ns = false) := by unfold Hid; rw [HG.out, HF.out, decide_eq_false hs]; rfl
      have z : decide ((T.size : Int) ≤ 20000) = false := by rw [decide_eq_false_iff_not]; omega
      clear hs
      go_enter Tryd.func8, Tryd.ntmps8
      go_wp2_with (first | (go_at_call 18; refine (fitsTogether_any v ns mx _ h hmx hg).mono ?_; rintro e w1 ⟨rfl, hb1⟩; rw [HF.out]; have HB1 := hidG hb1; have HN1 := hidG (h.below hb1); have HM1 : Hid (w1.cell? ⟨0, 0, none⟩ = some (.int .i64 mx)) := ((hb1.cell (p := ⟨0, 0, none⟩) hg).trans hmx); have hg1 : 0 < w1.heap.size := Nat.lt_of_lt_of_le hg hb1.size; clear hb1) | (go_at_call 19; refine (rowText_any v ns mx _ HN1.out HM1.out hg1 HF.out).mono ?_; rintro e w2 ⟨rfl, hb2⟩; rw [HT.out]; have HB2 : Hid (Below w.heap.size w w2) := HB1.out.trans (hb2.mono HB1.out.size); clear hb2))
      go_ret
      exact ⟨ret_bool HE.out.symm, HB2.out⟩
  · have HF : Hid (fits (ns.map Prod.fst) = false) := by unfold Hid; simpa using hf
    have HE : Hid (goodT ns = false) := by unfold Hid; rw [HG.out, HF.out]; rfl
    clear hf
    go_enter Tryd.func8, Tryd.ntmps8
    go_wp2_with (first | (go_at_call 18; refine (fitsTogether_any v ns mx _ h hmx hg).mono ?_; rintro e w1 ⟨rfl, hb1⟩; rw [HF.out]; have HB1 := hidG hb1; have HN1 := hidG (h.below hb1); have HM1 : Hid (w1.cell? ⟨0, 0, none⟩ = some (.int .i64 mx)) := ((hb1.cell (p := ⟨0, 0, none⟩) hg).trans hmx); have hg1 : 0 < w1.heap.size := Nat.lt_of_lt_of_le hg hb1.size; clear hb1))
    go_ret
    exact ⟨ret_bool HE.out.symm, HB1.out⟩
set_option maxRecDepth 100000 in
set_option maxHeartbeats 4000000 in
theorem implWrite_any (v : Value) (ns : List (Nd × Int)) (mx : Int) (w : World) (h : IsNodes w v ns) (hmx : w.cell? ⟨0, 0, none⟩ = some (.int .i64 mx)) (hg : 0 < w.heap.size) :
    Calls Tryd.prog 9 #[v] w fun e w' => e = .returned (.string (writeT ns)) ∧ Below w.heap.size w w' := by
  obtain ⟨T, hT⟩ : ∃ T, strOf (rowI (ns.map Prod.fst) []) = T := ⟨_, rfl⟩
  have HT := hidG hT
  by_cases hf : fits (ns.map Prod.fst) = true
  · have HF := hidG hf
    have HE : Hid (writeT ns = T) := by unfold Hid writeT; rw [if_pos hf, hT]
    clear hf hT
    go_enter Tryd.func9, Tryd.ntmps9
    go_wp2_with (first | (go_at_call 18; refine (fitsTogether_any v ns mx _ h hmx hg).mono ?_; rintro e w1 ⟨rfl, hb1⟩; rw [HF.out]; have HB1 := hidG hb1; have HN1 := hidG (h.below hb1); have HM1 : Hid (w1.cell? ⟨0, 0, none⟩ = some (.int .i64 mx)) := ((hb1.cell (p := ⟨0, 0, none⟩) hg).trans hmx); have hg1 : 0 < w1.heap.size := Nat.lt_of_lt_of_le hg hb1.size; clear hb1) | (go_at_call 19; refine (rowText_any v ns mx _ HN1.out HM1.out hg1 HF.out).mono ?_; rintro e w2 ⟨rfl, hb2⟩; rw [HT.out]; have HB2 : Hid (Below w.heap.size w w2) := HB1.out.trans (hb2.mono HB1.out.size); clear hb2))
    go_ret
    exact ⟨by rw [HE.out]; rfl, HB2.out⟩
  · have HF : Hid (fits (ns.map Prod.fst) = false) := by unfold Hid; simpa using hf
    have HE : Hid (writeT ns = ⟨#[]⟩) := by unfold Hid writeT; rw [if_neg hf]
    clear hf hT
    go_enter Tryd.func9, Tryd.ntmps9
    go_wp2_with (first | (go_at_call 18; refine (fitsTogether_any v ns mx _ h hmx hg).mono ?_; rintro e w1 ⟨rfl, hb1⟩; rw [HF.out]; have HB1 := hidG hb1; have HN1 := hidG (h.below hb1); have HM1 : Hid (w1.cell? ⟨0, 0, none⟩ = some (.int .i64 mx)) := ((hb1.cell (p := ⟨0, 0, none⟩) hg).trans hmx); have hg1 : 0 < w1.heap.size := Nat.lt_of_lt_of_le hg hb1.size; clear hb1))
    go_ret
    exact ⟨by rw [HE.out]; rfl, HB1.out⟩
set_option maxRecDepth 100000 in
set_option maxHeartbeats 4000000 in
theorem specGood_any (v : Value) (ns : List (Nd × Int)) (w : World) (h : IsNodes w v ns) :
    Calls Tryd.prog 7 #[v] w fun e w' => e = .returned (.bool (goodT ns)) ∧ Below w.heap.size w w' := by
  obtain ⟨T, hT⟩ : ∃ T, strOf (rowI (ns.map Prod.fst) []) = T := ⟨_, rfl⟩
  have hTs : T.size = (rowI (ns.map Prod.fst) []).length := by rw [← hT, strOf_size]
  have HT := hidG hT
  have HG : Hid (goodT ns = (fits (ns.map Prod.fst) && decide (T.size ≤ 20000))) := by unfold Hid; rw [hTs]; rfl
  clear hT hTs
  by_cases hf : fits (ns.map Prod.fst) = true
  · have HF := hidG hf
    clear hf
    by_cases hs : T.size ≤ 20000
    · have HE : Hid (goodT ns = true) := by unfold Hid; rw [HG.out, HF.out, decide_eq_true hs]; rfl
      have z : decide ((T.size : Int) ≤ 20000) = true := by rw [decide_eq_true_iff]; omega
      clear hs
      go_enter Tryd.func7, Tryd.ntmps7
      go_wp2_with (first | (go_at_call 16; refine (l3Form_any v ns _ h).mono ?_; rintro e w1 ⟨rfl, hb1⟩; rw [HF.out]; have HB1 := hidG hb1; have HN1 := hidG (h.below hb1); clear hb1) | (go_at_call 17; refine (l3Write_any v ns _ HN1.out HF.out).mono ?_; rintro e w2 ⟨rfl, hb2⟩; rw [HT.out]; have HB2 : Hid (Below w.heap.size w w2) := HB1.out.trans (hb2.mono HB1.out.size); clear hb2))
      go_ret
      exact ⟨ret_bool HE.out.symm, HB2.out⟩
    · have HE : Hid (goodT ns = false) := by unfold Hid; rw [HG.out, HF.out, decide_eq_false hs]; rfl
      have z : decide ((T.size : Int) ≤ 20000) = false := by rw [decide_eq_false_iff_not]; omega
      clear hs
      go_enter Tryd.func7, Tryd.ntmps7
      go_wp2_with (first | (go_at_call 16; refine (l3Form_any v ns _ h).mono ?_; rintro e w1 ⟨rfl, hb1⟩; rw [HF.out]; have HB1 := hidG hb1; have HN1 := hidG (h.below hb1); clear hb1) | (go_at_call 17; refine (l3Write_any v ns _ HN1.out HF.out).mono ?_; rintro e w2 ⟨rfl, hb2⟩; rw [HT.out]; have HB2 : Hid (Below w.heap.size w w2) := HB1.out.trans (hb2.mono HB1.out.size); clear hb2))
      go_ret
      exact ⟨ret_bool HE.out.symm, HB2.out⟩
  · have HF : Hid (fits (ns.map Prod.fst) = false) := by unfold Hid; simpa using hf
    have HE : Hid (goodT ns = false) := by unfold Hid; rw [HG.out, HF.out]; rfl
    clear hf
    go_enter Tryd.func7, Tryd.ntmps7
    go_wp2_with (first | (go_at_call 16; refine (l3Form_any v ns _ h).mono ?_; rintro e w1 ⟨rfl, hb1⟩; rw [HF.out]; have HB1 := hidG hb1; have HN1 := hidG (h.below hb1); clear hb1))
    go_ret
    exact ⟨ret_bool HE.out.symm, HB1.out⟩
set_option maxRecDepth 100000 in
set_option maxHeartbeats 4000000 in
theorem specWrite_any (v : Value) (ns : List (Nd × Int)) (w : World) (h : IsNodes w v ns) :
    Calls Tryd.prog 10 #[v] w fun e w' => e = .returned (.string (writeT ns)) ∧ Below w.heap.size w w' := by
  obtain ⟨T, hT⟩ : ∃ T, strOf (rowI (ns.map Prod.fst) []) = T := ⟨_, rfl⟩
  have HT := hidG hT
  by_cases hf : fits (ns.map Prod.fst) = true
  · have HF := hidG hf
    have HE : Hid (writeT ns = T) := by unfold Hid writeT; rw [if_pos hf, hT]
    clear hf hT
    go_enter Tryd.func10, Tryd.ntmps10
    go_wp2_with (first | (go_at_call 16; refine (l3Form_any v ns _ h).mono ?_; rintro e w1 ⟨rfl, hb1⟩; rw [HF.out]; have HB1 := hidG hb1; have HN1 := hidG (h.below hb1); clear hb1) | (go_at_call 17; refine (l3Write_any v ns _ HN1.out HF.out).mono ?_; rintro e w2 ⟨rfl, hb2⟩; rw [HT.out]; have HB2 : Hid (Below w.heap.size w w2) := HB1.out.trans (hb2.mono HB1.out.size); clear hb2))
    go_ret
    exact ⟨by rw [HE.out]; rfl, HB2.out⟩
  · have HF : Hid (fits (ns.map Prod.fst) = false) := by unfold Hid; simpa using hf
    have HE : Hid (writeT ns = ⟨#[]⟩) := by unfold Hid writeT; rw [if_neg hf]
    clear hf hT
    go_enter Tryd.func10, Tryd.ntmps10
    go_wp2_with (first | (go_at_call 16; refine (l3Form_any v ns _ h).mono ?_; rintro e w1 ⟨rfl, hb1⟩; rw [HF.out]; have HB1 := hidG hb1; have HN1 := hidG (h.below hb1); clear hb1))
    go_ret
    exact ⟨by rw [HE.out]; rfl, HB1.out⟩
end Go.Proofs.YtnpapmkokngjpaaDoor
