import Derived.Test.YtdngpnlbhadbpaaDoorTrLw
import Derived.Test.YtdngpnlbhadbpaaDoorTkS
import Derived.Test.YtdngpnlbhadbpaaDoorTkXY
import Derived.Test.YtdngpnlbhadbpaaDoorTrY
import Derived.Test.YtdngpnlbhadbpaaDoorTrDe
import Derived.Laws.MakeOwn
import Derived.Test.YtdngpnlbhadbpaaDoorTrP
import Derived.Test.YtdngpnlbhadbpaaDoorRows
import Derived.Test.YtdngpnlbhadbpaaDoorCards
import Derived.Test.YtdngpnlbhadbpaaDoorTie
import Derived.HandedShaped
import Derived.Shelf.Vars
import Derived.Deep.Slices
import Derived.WalkKit
import Derived.ProofKit
import Derived.OpenShut
import Derived.ChangeOld
import Derived.ChangeVars
import Derived.LaidMore
import Derived.Lay
import Derived.Stop.Joined
import Derived.SevenTiedAt
namespace Go.Proofs.YtdngpnlbhadbpaaDoor
open Go.ChangeShapes Go.WideShapes Go.ChangeAt Go.RowKit
set_option maxRecDepth 100000 in
set_option maxHeartbeats 4000000 in
theorem fitsTogether_many (p : Option Addr) (n c : Nat) (w : World) (h : 8000 < n) :
    Calls Tryd.prog 18 #[.slice p n c] w fun e w' => e = .returned (.bool false) ∧ w' = w := by
  have z : decide ((8000 : Int) < (n : Int)) = true := by rw [decide_eq_true_iff]; omega
  clear h
  go_enter Tryd.func18, Tryd.ntmps18
  go_wp2_with fail
  go_ret
  exact ⟨rfl, rfl⟩
set_option maxRecDepth 100000 in
set_option maxHeartbeats 4000000 in
theorem fitsTogether_none (p : Option Addr) (c : Nat) (w : World) :
    Calls Tryd.prog 18 #[.slice p 0 c] w fun e w' => e = .returned (.bool true) ∧ Below w.heap.size w w' := by
  go_enter Tryd.func18, Tryd.ntmps18
  go_wp2_with fail
  go_loop [3, 12] (fun m i => m = .int .i64 0 ∧ i = .int .i64 0) (fun _ _ => 0)
  case atStart => exact ⟨rfl, rfl⟩
  case round =>
    obtain ⟨rfl, rfl⟩ := hrel
    go_wp2_with fail
    go_ret
    exact ⟨rfl, below_alloc _ _⟩
theorem fitsTogether_any (v : Value) (ns : List (Nd × Int)) (mx : Int) (w : World) (h : IsNodes w v ns) (hmx : w.cell? ⟨0, 0, none⟩ = some (.int .i64 mx)) (hg : 0 < w.heap.size) :
    Calls Tryd.prog 18 #[v] w fun e w' => e = .returned (.bool (fits (ns.map Prod.fst))) ∧ Below w.heap.size w w' := by
  obtain ⟨p, c, rfl, hc, hm, h⟩ := h
  by_cases h8 : 8000 < ns.length
  · refine (fitsTogether_many p ns.length c w h8).mono ?_
    rintro e w' ⟨rfl, rfl⟩
    exact ⟨by rw [fits_many h8], Below.refl _ _⟩
  rcases h with rfl | ⟨b, rfl, hb, hN⟩
  · exact fitsTogether_none p c w
  · rw [fits_few (by omega)]
    exact fitsTogether_row b c ns mx w (by omega) hc hm hb hN hmx hg
set_option maxRecDepth 100000 in
set_option maxHeartbeats 4000000 in
theorem rowText_none (p : Option Addr) (c : Nat) (w : World) :
    Calls Tryd.prog 19 #[.slice p 0 c] w fun e w' => e = .returned (.string ⟨#[]⟩) ∧ Below w.heap.size w w' := by
  go_enter Tryd.func19, Tryd.ntmps19
  go_wp2_with fail
  go_loop [10] (fun i => i = .int .i64 0) (fun _ => 0)
  case atStart => rfl
  case round =>
    subst hrel
    have HD := hidG (builderF_below (builderF_new w) (below_alloc _ (.cells #[.slice none 0 0] 64)))
    go_wp2_with (first | (go_at_call 42; refine (builderString_k w.heap.size w.heap.size [] _ HD.out (by simp; omega)).mono ?_; rintro e w1 ⟨rfl, hb1⟩; have HB1 := hidG hb1; clear hb1))
    go_ret
    exact ⟨rfl, ((below_alloc w _).alloc (by simp) _).trans HB1.out⟩
theorem fits_row {ns : List (Nd × Int)} (h : fits (ns.map Prod.fst) = true) : ns.length ≤ 8000 ∧ fitF (ns.map Prod.fst) 0 [] = true := by
  unfold fits at h
  rw [Bool.and_eq_true, decide_eq_true_eq] at h
  exact ⟨by simpa using h.1, h.2⟩
theorem rowText_any (v : Value) (ns : List (Nd × Int)) (mx : Int) (w : World) (h : IsNodes w v ns) (hmx : w.cell? ⟨0, 0, none⟩ = some (.int .i64 mx)) (hg : 0 < w.heap.size) (hf : fits (ns.map Prod.fst) = true) :
    Calls Tryd.prog 19 #[v] w fun e w' => e = .returned (.string (strOf (rowI (ns.map Prod.fst) []))) ∧ Below w.heap.size w w' := by
  obtain ⟨p, c, rfl, hc, hm, h⟩ := h
  obtain ⟨h8, hf⟩ := fits_row hf
  rcases h with rfl | ⟨b, rfl, hb, hN⟩
  · exact rowText_none p c w
  · exact rowText_row b c ns mx w h8 hc hm hb hN hmx hg hf
set_option maxRecDepth 100000 in
set_option maxHeartbeats 4000000 in
theorem l3Write_none (p : Option Addr) (c : Nat) (w : World) :
    Calls Tryd.prog 17 #[.slice p 0 c] w fun e w' => e = .returned (.string ⟨#[]⟩) ∧ Below w.heap.size w w' := by
  have hcv := conv_any (base := 0) (W := w) (v := .slice none 0 0) (l := []) ⟨rfl, .inl ⟨rfl, rfl⟩⟩
  rw [show strOf [] = (⟨#[]⟩ : ByteArray) from rfl] at hcv
  go_enter Tryd.func17, Tryd.ntmps17
  go_wp2_with fail
  go_loop [3, 4, 9] (fun a b i => a = .slice none 0 0 ∧ b = .slice none 0 0 ∧ i = .int .i64 0) (fun _ _ _ => 0)
  case atStart => exact ⟨rfl, rfl, rfl⟩
  case round =>
    obtain ⟨rfl, rfl, rfl⟩ := hrel
    go_wp2_with fail
    go_ret
    exact ⟨rfl, Below.refl _ _⟩
theorem l3Write_any (v : Value) (ns : List (Nd × Int)) (w : World) (h : IsNodes w v ns) (hf : fits (ns.map Prod.fst) = true) :
    Calls Tryd.prog 17 #[v] w fun e w' => e = .returned (.string (strOf (rowI (ns.map Prod.fst) []))) ∧ Below w.heap.size w w' := by
  obtain ⟨p, c, rfl, hc, hm, h⟩ := h
  obtain ⟨h8, hf⟩ := fits_row hf
  rcases h with rfl | ⟨b, rfl, hb, hN⟩
  · exact l3Write_none p c w
  · rw [← rowS_eq hf]
    exact l3Write_row b c ns w h8 hc hm hb hN hf
theorem IsNodes.below {w w' : World} {v : Value} {ns : List (Nd × Int)} (h : IsNodes w v ns) (hb : Below w.heap.size w w') : IsNodes w' v ns := by
  obtain ⟨p, c, rfl, hc, hm, h⟩ := h
  refine ⟨p, c, rfl, hc, hm, ?_⟩
  rcases h with h | ⟨b, rfl, hlt, hN⟩
  · exact .inl h
  · refine .inr ⟨b, rfl, Nat.lt_of_lt_of_le hlt hb.size, fun i hi => ?_⟩
    obtain ⟨⟨k0, k1, k2, k3⟩, h2⟩ := hN i hi
    exact ⟨⟨(hb.cell (p := ⟨b, i * 4, none⟩) hlt).trans k0, (hb.cell (p := ⟨b, i * 4 + 1, none⟩) hlt).trans k1, (hb.cell (p := ⟨b, i * 4 + 2, none⟩) hlt).trans k2, (hb.cell (p := ⟨b, i * 4 + 3, none⟩) hlt).trans k3⟩, h2⟩
/-- What both sides answer. -/
def goodT (ns : List (Nd × Int)) : Bool := fits (ns.map Prod.fst) && decide ((rowI (ns.map Prod.fst) []).length ≤ 20000)
def writeT (ns : List (Nd × Int)) : ByteArray := if fits (ns.map Prod.fst) then strOf (rowI (ns.map Prod.fst) []) else ⟨#[]⟩
theorem strOf_size (l : List UInt8) : (strOf l).size = l.length := by rw [Lib.size_eq, strOf_toList]
set_option maxRecDepth 100000 in
set_option maxHeartbeats 4000000 in
theorem implGood_any (v : Value) (ns : List (Nd × Int)) (mx : Int) (w : World) (h : IsNodes w v ns) (hmx : w.cell? ⟨0, 0, none⟩ = some (.int .i64 mx)) (hg : 0 < w.heap.size) :
    Calls Tryd.prog 8 #[v] w fun e w' => e = .returned (.bool (goodT ns)) ∧ Below w.heap.size w w' := by
  obtain ⟨T, hT⟩ : ∃ T, strOf (rowI (ns.map Prod.fst) []) = T := ⟨_, rfl⟩
  have hTs : T.size = (rowI (ns.map Prod.fst) []).length := by rw [← hT, strOf_size]
  have HT := hidG hT
  have HG : Hid (goodT ns = (fits (ns.map Prod.fst) && decide (T.size ≤ 20000))) := by unfold Hid; rw [hTs]; rfl
  clear hT hTs
  by_cases hf : fits (ns.map Prod.fst) = true
  · have HF := hidG hf
    clear hf
    by_cases hs : T.size ≤ 20000
    · have HE : Hid (goodT ns = true) := by unfold Hid; rw [HG.out, HF.out, decide_eq_true hs]; rfl
      have z : decide ((T.size : Int) ≤ 20000) = true := by rw [decide_eq_true_iff]; omega
      clear hs
      go_enter Tryd.func8, Tryd.ntmps8
      go_wp2_with (first | (go_at_call 18; refine (fitsTogether_any v ns mx _ h hmx hg).mono ?_; rintro e w1 ⟨rfl, hb1⟩; rw [HF.out]; have HB1 := hidG hb1; have HN1 := hidG (h.below hb1); have HM1 : Hid (w1.cell? ⟨0, 0, none⟩ = some (.int .i64 mx)) := ((hb1.cell (p := ⟨0, 0, none⟩) hg).trans hmx); have hg1 : 0 < w1.heap.size := Nat.lt_of_lt_of_le hg hb1.size; clear hb1) | (go_at_call 19; refine (rowText_any v ns mx _ HN1.out HM1.out hg1 HF.out).mono ?_; rintro e w2 ⟨rfl, hb2⟩; rw [HT.out]; have HB2 : Hid (Below w.heap.size w w2) := HB1.out.trans (hb2.mono HB1.out.size); clear hb2))
      go_ret
      exact ⟨ret_bool HE.out.symm, HB2.out⟩
    · have HE : Hid (goodT ns = false) := by unfold Hid; rw [HG.out, HF.out, decide_eq_false hs]; rfl
      have z : decide ((T.size : Int) ≤ 20000) = false := by rw [decide_eq_false_iff_not]; omega
      clear hs
      go_enter Tryd.func8, Tryd.ntmps8
      go_wp2_with (first | (go_at_call 18; refine (fitsTogether_any v ns mx _ h hmx hg).mono ?_; rintro e w1 ⟨rfl, hb1⟩; rw [HF.out]; have HB1 := hidG hb1; have HN1 := hidG (h.below hb1); have HM1 : Hid (w1.cell? ⟨0, 0, none⟩ = some (.int .i64 mx)) := ((hb1.cell (p := ⟨0, 0, none⟩) hg).trans hmx); have hg1 : 0 < w1.heap.size := Nat.lt_of_lt_of_le hg hb1.size; clear hb1) | (go_at_call 19; refine (rowText_any v ns mx _ HN1.out HM1.out hg1 HF.out).mono ?_; rintro e w2 ⟨rfl, hb2⟩; rw [HT.out]; have HB2 : Hid (Below w.heap.size w w2) := HB1.out.trans (hb2.mono HB1.out.size); clear hb2))
      go_ret
      exact ⟨ret_bool HE.out.symm, HB2.out⟩
  · have HF : Hid (fits (ns.map Prod.fst) = false) := by unfold Hid; simpa using hf
    have HE : Hid (goodT ns = false) := by unfold Hid; rw [HG.out, HF.out]; rfl
    clear hf
    go_enter Tryd.func8, Tryd.ntmps8
    go_wp2_with (first | (go_at_call 18; refine (fitsTogether_any v ns mx _ h hmx hg).mono ?_; rintro e w1 ⟨rfl, hb1⟩; rw [HF.out]; have HB1 := hidG hb1; have HN1 := hidG (h.below hb1); have HM1 : Hid (w1.cell? ⟨0, 0, none⟩ = some (.int .i64 mx)) := ((hb1.cell (p := ⟨0, 0, none⟩) hg).trans hmx); have hg1 : 0 < w1.heap.size := Nat.lt_of_lt_of_le hg hb1.size; clear hb1))
    go_ret
    exact ⟨ret_bool HE.out.symm, HB1.out⟩
set_option maxRecDepth 100000 in
set_option maxHeartbeats 4000000 in
theorem implWrite_any (v : Value) (ns : List (Nd × Int)) (mx : Int) (w : World) (h : IsNodes w v ns) (hmx : w.cell? ⟨0, 0, none⟩ = some (.int .i64 mx)) (hg : 0 < w.heap.size) :
    Calls Tryd.prog 9 #[v] w fun e w' => e = .returned (.string (writeT ns)) ∧ Below w.heap.size w w' := by
  obtain ⟨T, hT⟩ : ∃ T, strOf (rowI (ns.map Prod.fst) []) = T := ⟨_, rfl⟩
  have HT := hidG hT
  by_cases hf : fits (ns.map Prod.fst) = true
  · have HF := hidG hf
    have HE : Hid (writeT ns = T) := by unfold Hid writeT; rw [if_pos hf, hT]
    clear hf hT
    go_enter Tryd.func9, Tryd.ntmps9
    go_wp2_with (first | (go_at_call 18; refine (fitsTogether_any v ns mx _ h hmx hg).mono ?_; rintro e w1 ⟨rfl, hb1⟩; rw [HF.out]; have HB1 := hidG hb1; have HN1 := hidG (h.below hb1); have HM1 : Hid (w1.cell? ⟨0, 0, none⟩ = some (.int .i64 mx)) := ((hb1.cell (p := ⟨0, 0, none⟩) hg).trans hmx); have hg1 : 0 < w1.heap.size := Nat.lt_of_lt_of_le hg hb1.size; clear hb1) | (go_at_call 19; refine (rowText_any v ns mx _ HN1.out HM1.out hg1 HF.out).mono ?_; rintro e w2 ⟨rfl, hb2⟩; rw [HT.out]; have HB2 : Hid (Below w.heap.size w w2) := HB1.out.trans (hb2.mono HB1.out.size); clear hb2))
    go_ret
    exact ⟨by rw [HE.out]; rfl, HB2.out⟩
  · have HF : Hid (fits (ns.map Prod.fst) = false) := by unfold Hid; simpa using hf
    have HE : Hid (writeT ns = ⟨#[]⟩) := by unfold Hid writeT; rw [if_neg hf]
    clear hf hT
    go_enter Tryd.func9, Tryd.ntmps9
    go_wp2_with (first | (go_at_call 18; refine (fitsTogether_any v ns mx _ h hmx hg).mono ?_; rintro e w1 ⟨rfl, hb1⟩; rw [HF.out]; have HB1 := hidG hb1; have HN1 := hidG (h.below hb1); have HM1 : Hid (w1.cell? ⟨0, 0, none⟩ = some (.int .i64 mx)) := ((hb1.cell (p := ⟨0, 0, none⟩) hg).trans hmx); have hg1 : 0 < w1.heap.size := Nat.lt_of_lt_of_le hg hb1.size; clear hb1))
    go_ret
    exact ⟨by rw [HE.out]; rfl, HB1.out⟩
set_option maxRecDepth 100000 in
set_option maxHeartbeats 4000000 in
theorem specGood_any (v : Value) (ns : List (Nd × Int)) (w : World) (h : IsNodes w v ns) :
    Calls Tryd.prog 7 #[v] w fun e w' => e = .returned (.bool (goodT ns)) ∧ Below w.heap.size w w' := by
  obtain ⟨T, hT⟩ : ∃ T, strOf (rowI (ns.map Prod.fst) []) = T := ⟨_, rfl⟩
  have hTs : T.size = (rowI (ns.map Prod.fst) []).length := by rw [← hT, strOf_size]
  have HT := hidG hT
  have HG : Hid (goodT ns = (fits (ns.map Prod.fst) && decide (T.size ≤ 20000))) := by unfold Hid; rw [hTs]; rfl
  clear hT hTs
  by_cases hf : fits (ns.map Prod.fst) = true
  · have HF := hidG hf
    clear hf
    by_cases hs : T.size ≤ 20000
    · have HE : Hid (goodT ns = true) := by unfold Hid; rw [HG.out, HF.out, decide_eq_true hs]; rfl
      have z : decide ((T.size : Int) ≤ 20000) = true := by rw [decide_eq_true_iff]; omega
      clear hs
      go_enter Tryd.func7, Tryd.ntmps7
      go_wp2_with (first | (go_at_call 16; refine (l3Form_any v ns _ h).mono ?_; rintro e w1 ⟨rfl, hb1⟩; rw [HF.out]; have HB1 := hidG hb1; have HN1 := hidG (h.below hb1); clear hb1) | (go_at_call 17; refine (l3Write_any v ns _ HN1.out HF.out).mono ?_; rintro e w2 ⟨rfl, hb2⟩; rw [HT.out]; have HB2 : Hid (Below w.heap.size w w2) := HB1.out.trans (hb2.mono HB1.out.size); clear hb2))
      go_ret
      exact ⟨ret_bool HE.out.symm, HB2.out⟩
    · have HE : Hid (goodT ns = false) := by unfold Hid; rw [HG.out, HF.out, decide_eq_false hs]; rfl
      have z : decide ((T.size : Int) ≤ 20000) = false := by rw [decide_eq_false_iff_not]; omega
      clear hs
      go_enter Tryd.func7, Tryd.ntmps7
      go_wp2_with (first | (go_at_call 16; refine (l3Form_any v ns _ h).mono ?_; rintro e w1 ⟨rfl, hb1⟩; rw [HF.out]; have HB1 := hidG hb1; have HN1 := hidG (h.below hb1); clear hb1) | (go_at_call 17; refine (l3Write_any v ns _ HN1.out HF.out).mono ?_; rintro e w2 ⟨rfl, hb2⟩; rw [HT.out]; have HB2 : Hid (Below w.heap.size w w2) := HB1.out.trans (hb2.mono HB1.out.size); clear hb2))
      go_ret
      exact ⟨ret_bool HE.out.symm, HB2.out⟩
  · have HF : Hid (fits (ns.map Prod.fst) = false) := by unfold Hid; simpa using hf
    have HE : Hid (goodT ns = false) := by unfold Hid; rw [HG.out, HF.out]; rfl
    clear hf
    go_enter Tryd.func7, Tryd.ntmps7
    go_wp2_with (first | (go_at_call 16; refine (l3Form_any v ns _ h).mono ?_; rintro e w1 ⟨rfl, hb1⟩; rw [HF.out]; have HB1 := hidG hb1; have HN1 := hidG (h.below hb1); clear hb1))
    go_ret
    exact ⟨ret_bool HE.out.symm, HB1.out⟩
set_option maxRecDepth 100000 in
set_option maxHeartbeats 4000000 in
theorem specWrite_any (v : Value) (ns : List (Nd × Int)) (w : World) (h : IsNodes w v ns) :
    Calls Tryd.prog 10 #[v] w fun e w' => e = .returned (.string (writeT ns)) ∧ Below w.heap.size w w' := by
  obtain ⟨T, hT⟩ : ∃ T, strOf (rowI (ns.map Prod.fst) []) = T := ⟨_, rfl⟩
  have HT := hidG hT
  by_cases hf : fits (ns.map Prod.fst) = true
  · have HF := hidG hf
    have HE : Hid (writeT ns = T) := by unfold Hid writeT; rw [if_pos hf, hT]
    clear hf hT
    go_enter Tryd.func10, Tryd.ntmps10
    go_wp2_with (first | (go_at_call 16; refine (l3Form_any v ns _ h).mono ?_; rintro e w1 ⟨rfl, hb1⟩; rw [HF.out]; have HB1 := hidG hb1; have HN1 := hidG (h.below hb1); clear hb1) | (go_at_call 17; refine (l3Write_any v ns _ HN1.out HF.out).mono ?_; rintro e w2 ⟨rfl, hb2⟩; rw [HT.out]; have HB2 : Hid (Below w.heap.size w w2) := HB1.out.trans (hb2.mono HB1.out.size); clear hb2))
    go_ret
    exact ⟨by rw [HE.out]; rfl, HB2.out⟩
  · have HF : Hid (fits (ns.map Prod.fst) = false) := by unfold Hid; simpa using hf
    have HE : Hid (writeT ns = ⟨#[]⟩) := by unfold Hid writeT; rw [if_neg hf]
    clear hf hT
    go_enter Tryd.func10, Tryd.ntmps10
    go_wp2_with (first | (go_at_call 16; refine (l3Form_any v ns _ h).mono ?_; rintro e w1 ⟨rfl, hb1⟩; rw [HF.out]; have HB1 := hidG hb1; have HN1 := hidG (h.below hb1); clear hb1))
    go_ret
    exact ⟨by rw [HE.out]; rfl, HB1.out⟩
end Go.Proofs.YtdngpnlbhadbpaaDoor
namespace Go.Proofs.YtdngpnlbhadbpaaDoor
open Go.ChangeShapes Go.WideShapes Go.ChangeAt Go.RowKit
theorem stepM_cons {s : List UInt8} {st : RS} {c : UInt8} {u : List UInt8} (h : s.drop st.i = c :: u) : stepM s st = stepC st (c :: u) c := by
  unfold stepM; rw [h]
theorem stepM_nil {s : List UInt8} {st : RS} (h : s.drop st.i = []) : stepM s st = .inl (endM st.ns st.op) := by
  unfold stepM; rw [h]
theorem drop_on {s a b : List UInt8} {i : Nat} (h : s.drop i = a ++ b) : s.drop (i + a.length) = b := by
  rw [← List.drop_drop, h, List.drop_left]
/-- A byte that ends a token. -/
def endB (d : UInt8) : Prop := d = 41 ∨ d = 32 ∨ d = 10
theorem endB_not {d : UInt8} (h : endB d) : nameB d = false ∧ dg d = false ∧ bitB d = false ∧ d ≠ 46 ∧ d ≠ 34 := by
  rcases h with rfl | rfl | rfl <;> exact ⟨by decide, by decide, by decide, by decide, by decide⟩
theorem run_stop {p : UInt8 → Bool} {t : List UInt8} {d : UInt8} {r : List UInt8} (h : t.all p = true) (hd : p d = false) : runL p (t ++ d :: r) = t.length := by
  rw [runL_append h]; unfold runL; rw [if_neg (by rw [hd]; decide)]; omega
theorem scanT_dbl' (t : List UInt8) {d : UInt8} (r : List UInt8) (hd : d ≠ 34) : t.all textB = true → scanT (dbl t ++ 34 :: d :: r) = some (t, (dbl t).length + 1) := by
  induction t with
  | nil => intro _; exact scanT_one hd
  | cons c k ih =>
    intro h
    simp only [List.all_cons, Bool.and_eq_true] at h
    have ih := ih h.2
    by_cases hc : c = 34
    · subst hc
      show scanT (34 :: 34 :: (dbl k ++ 34 :: d :: r)) = _
      rw [scanT_two, ih]
      simp [dbl]
    · have e : dbl (c :: k) = c :: dbl k := by simp [dbl, hc]
      rw [e]
      show scanT (c :: (dbl k ++ 34 :: d :: r)) = _
      rw [scanT_other hc, if_pos h.1, ih]
      simp
theorem num_tok {b : Bool} {t : List UInt8} (h : numOk b t = true) {d : UInt8} (r : List UInt8) (hd : endB d) : tokN (t ++ d :: r) = (if b then 4 else 3, t.length) := by
  obtain ⟨_, hg, _, h46, _⟩ := endB_not hd
  obtain ⟨k, hk⟩ : ∃ k, runL dg t = k := ⟨_, rfl⟩
  have hkl := runL_le dg t
  unfold numOk at h
  rw [hk] at h hkl
  simp only [Bool.and_eq_true, decide_eq_true_eq, Bool.not_eq_true', Bool.and_eq_false_iff, decide_eq_false_iff_not] at h
  obtain ⟨⟨h0, h1⟩, h2⟩ := h
  have hne : t ≠ [] := by rintro rfl; simp at hkl; omega
  have hhead : (t ++ d :: r).head? = t.head? := by cases t with | nil => exact absurd rfl hne | cons a q => rfl
  have hlead : ¬ (1 < k ∧ t.head? = some 48) := by
    rintro ⟨a, b⟩
    rcases h1 with h | h
    · exact h a
    · exact h b
  cases b with
  | false =>
    simp only [Bool.false_eq_true, if_false, Bool.and_eq_true, decide_eq_true_eq] at h2
    have hall : t.all dg = true := runL_eq_len (by omega)
    have hr : runL dg (t ++ d :: r) = t.length := run_stop hall hg
    unfold tokN
    rw [hr, hhead, if_neg (by rw [← h2.2]; exact hlead), if_neg]
    · rfl
    · unfold partL; rw [List.drop_left]; simp only; rw [if_neg h46]; omega
  | true =>
    simp only [if_true, Bool.and_eq_true, decide_eq_true_eq] at h2
    obtain ⟨h3, h4⟩ := h2
    cases hd2 : t.drop k with
    | nil => rw [hd2] at h3; simp at h3
    | cons c q =>
      rw [hd2] at h3 h4
      simp only at h3 h4
      by_cases hc : c = 46
      · rw [if_pos hc] at h3 h4
        have ht : t = t.take k ++ c :: q := by rw [← hd2, List.take_append_drop]
        have hlen : t.length = k + (q.length + 1) := by
          have := congrArg List.length ht
          rw [List.length_append, List.length_take, List.length_cons] at this; omega
        have hq : q.all dg = true := runL_eq_len (by omega)
        have hnot : t.all dg = false := by
          cases ha : t.all dg with
          | false => rfl
          | true =>
            have := runL_all ha
            omega
        have hr : runL dg (t ++ d :: r) = k := by rw [runL_append_lt hnot, hk]
        have hdr : (t ++ d :: r).drop k = c :: (q ++ d :: r) := by
          rw [List.drop_append_of_le_length (by omega), hd2]; rfl
        have hp : partL (t ++ d :: r) k = q.length := by
          unfold partL; rw [hdr]; simp only; rw [if_pos hc]; exact run_stop hq hg
        unfold tokN
        rw [hr, hhead, if_neg hlead, hp, if_pos (by omega)]
        show ((4 : Int), k + 1 + q.length) = (4, t.length)
        rw [hlen]; congr 1; omega
      · rw [if_neg hc] at h3; omega
/-- A token that is written is read. -/
theorem tok_back {n : Nd} (hok : nodeOk n = true) (h1 : n.kind ≠ 1) {d : UInt8} (r : List UInt8) (hd : endB d) :
    ∃ c u, tokT n.kind n.t = c :: u ∧ blankB c = false ∧ c.toNat ≠ 59 ∧ c.toNat ≠ 41 ∧ nodeL (tokT n.kind n.t ++ d :: r) = some (n.kind, n.t, (tokT n.kind n.t).length) := by
  obtain ⟨hn, hg, hb, h46, h34⟩ := endB_not hd
  obtain ⟨_, _, hw⟩ := nodeOk_split hok
  generalize n.t = t at *
  generalize n.kind = kind at *
  have notB : ∀ c : UInt8, nameB c = true → blankB c = false ∧ c.toNat ≠ 59 ∧ c.toNat ≠ 41 ∧ c.toNat ≠ 40 := by
    intro c hc
    have k : ∀ m : Fin 256, nameB (UInt8.ofNat m.val) = true → blankB (UInt8.ofNat m.val) = false ∧ (UInt8.ofNat m.val).toNat ≠ 59 ∧ (UInt8.ofNat m.val).toNat ≠ 41 ∧ (UInt8.ofNat m.val).toNat ≠ 40 := by decide +kernel
    have e : UInt8.ofNat c.toNat = c := by simp
    have := k ⟨c.toNat, c.toNat_lt⟩
    simp only [e] at this
    exact this hc
  have node_of : ∀ (c : UInt8) (u : List UInt8), c ≠ 40 → nodeL (c :: u) = tokL (c :: u) := fun c u hc => by
    unfold nodeL; rw [if_neg (by simpa using hc)]
  by_cases h2 : kind = 2
  · subst h2
    have ht : tokT 2 t = if plainN t then t else 124 :: (t ++ [124]) := rfl
    rw [ht]
    by_cases hp : plainN t = true
    · rw [if_pos hp]
      obtain ⟨h0, hdg, hall⟩ := plainN_split hp
      cases t with
      | nil => exact absurd rfl h0
      | cons c u =>
        have hc : nameB c = true := by simp only [List.all_cons, Bool.and_eq_true] at hall; exact hall.1
        obtain ⟨e1, e2, e3, e4⟩ := notB c hc
        obtain ⟨f1, f2, f3, f4⟩ := nameB_ne hc
        have hg0 := hdg c rfl
        refine ⟨c, u, rfl, e1, e2, e3, ?_⟩
        have hr : runL nameB (c :: u ++ d :: r) = (c :: u).length := run_stop hall hn
        rw [List.cons_append] at hr ⊢
        rw [node_of _ _ (by intro e; apply e4; rw [e]; rfl)]
        unfold tokL
        simp only
        rw [if_neg f1, if_neg f2, if_neg f3, if_neg f4, if_neg (by rw [hg0]; decide), if_pos hc, hr, ← List.cons_append, List.take_left]
    · rw [if_neg hp]
      have hall : t.all barB = true := hw
      refine ⟨124, t ++ [124], rfl, by decide, by decide, by decide, ?_⟩
      have e : (124 :: (t ++ [124]) : List UInt8) ++ d :: r = 124 :: (t ++ 124 :: d :: r) := by simp
      have hr : runL barB (t ++ 124 :: d :: r) = t.length := run_stop hall (by decide)
      rw [e, node_of _ _ (by decide)]
      unfold tokL
      simp only
      rw [if_neg (by decide), if_pos (by decide), hr, if_pos (by simp), List.take_left]
      simp
  by_cases h34k : kind = 3 ∨ kind = 4
  · have ht : tokT kind t = t := by rcases h34k with rfl | rfl <;> rfl
    rw [ht]
    have hno : numOk (decide (kind = 4)) t = true := by rcases h34k with rfl | rfl <;> exact hw
    have htk := num_tok hno r hd
    have hkk : (if decide (kind = 4) then (4 : Int) else 3) = kind := by rcases h34k with rfl | rfl <;> rfl
    rw [hkk] at htk
    cases t with
    | nil => simp [numOk, runL] at hno
    | cons c u =>
      have hcd : dg c = true := by
        cases hq : dg c with
        | true => rfl
        | false => simp [numOk, runL, hq] at hno
      have hc : nameB c = true := by unfold nameB; simp [hcd]
      obtain ⟨e1, e2, e3, e4⟩ := notB c hc
      obtain ⟨f1, f2, f3, f4⟩ := nameB_ne hc
      refine ⟨c, u, rfl, e1, e2, e3, ?_⟩
      rw [List.cons_append] at htk ⊢
      rw [node_of _ _ (by intro e; apply e4; rw [e]; rfl)]
      unfold tokL
      simp only
      rw [if_neg f1, if_neg f2, if_neg f3, if_neg f4, if_pos hcd, htk, if_neg (by rcases h34k with rfl | rfl <;> simp)]
      simp only
      rw [← List.cons_append, List.take_left]
  by_cases h5 : kind = 5
  · subst h5
    have hw' : (!t.isEmpty && t.all bitB) = true := hw
    rw [Bool.and_eq_true, Bool.not_eq_true', List.isEmpty_eq_false_iff] at hw'
    have hlen : t.length ≠ 0 := fun e => hw'.1 (List.eq_nil_of_length_eq_zero e)
    refine ⟨35, 98 :: t, rfl, by decide, by decide, by decide, ?_⟩
    show nodeL (35 :: (98 :: t ++ d :: r)) = _
    rw [node_of _ _ (by decide)]
    have hr : runL bitB (t ++ d :: r) = t.length := run_stop hw'.2 hb
    unfold tokL
    simp only
    rw [if_neg (by decide), if_neg (by decide), if_neg (by decide), if_pos (by decide)]
    show bitsL (98 :: (t ++ d :: r)) = _
    unfold bitsL
    simp only
    rw [if_pos (by decide), hr, if_neg hlen, List.take_left]
    show some (5, t, 2 + t.length) = some (5, t, (35 :: 98 :: t : List UInt8).length)
    simp only [List.length_cons]; congr 3; omega
  by_cases h6 : kind = 6
  · subst h6
    have hall : t.all textB = true := hw
    refine ⟨34, dbl t ++ [34], rfl, by decide, by decide, by decide, ?_⟩
    have e : tokT 6 t ++ d :: r = 34 :: (dbl t ++ 34 :: d :: r) := by show (34 :: (dbl t ++ [34]) : List UInt8) ++ d :: r = _; simp
    rw [e, node_of _ _ (by decide)]
    unfold tokL
    simp only
    rw [if_pos (by decide), scanT_dbl' t r h34 hall]
    show some (6, t, (dbl t).length + 1 + 1) = some (6, t, (34 :: (dbl t ++ [34]) : List UInt8).length)
    simp
  by_cases h7 : kind = 7
  · subst h7
    have hw' : (!t.isEmpty && t.all nameB) = true := hw
    rw [Bool.and_eq_true, Bool.not_eq_true', List.isEmpty_eq_false_iff] at hw'
    have hlen : t.length ≠ 0 := fun e => hw'.1 (List.eq_nil_of_length_eq_zero e)
    refine ⟨58, t, rfl, by decide, by decide, by decide, ?_⟩
    show nodeL (58 :: (t ++ d :: r)) = _
    rw [node_of _ _ (by decide)]
    have hr : runL nameB (t ++ d :: r) = t.length := run_stop hw'.2 hn
    unfold tokL
    simp only
    rw [if_neg (by decide), if_neg (by decide), if_pos (by decide), hr, if_neg hlen, List.take_left]
    rfl
  · exfalso
    simp only [wordOk, if_neg h1, if_neg h2, if_neg (fun e => h34k (.inl e)), if_neg (fun e => h34k (.inr e)), if_neg h5, if_neg h6, if_neg h7] at hw
    cases hw
end Go.Proofs.YtdngpnlbhadbpaaDoor
namespace Go.Proofs.YtdngpnlbhadbpaaDoor
open Go.ChangeShapes Go.WideShapes Go.ChangeAt Go.RowKit
/-- How many members a list that is open still wants. -/
def leftAt : List Nat → List Int → Nat → Int
  | j :: op, a :: l, i => if i = j then a else leftAt op l i
  | _, _, _ => 0
theorem leftAt_none : ∀ (op : List Nat) (l : List Int) (i : Nat), i ∉ op → leftAt op l i = 0
  | [], _, _, _ => by cases ‹List Int› <;> rfl
  | j :: op, [], _, _ => rfl
  | j :: op, a :: l, i, h => by
    simp only [List.mem_cons, not_or] at h
    show (if i = j then a else leftAt op l i) = 0
    rw [if_neg h.1]; exact leftAt_none op l i h.2
theorem leftAt_dec {op : List Nat} {l : List Int} (hl : op.length = l.length) (i : Nat) : leftAt op (decL l) i = leftAt op l i - (if op.head? = some i then 1 else 0) := by
  cases op with
  | nil => cases l <;> simp [leftAt]
  | cons j op =>
    cases l with
    | nil => simp at hl
    | cons a l =>
      show (if i = j then a - 1 else leftAt op l i) = (if i = j then a else leftAt op l i) - _
      by_cases h : i = j
      · subst h; simp
      · rw [if_neg h, if_neg h, if_neg (by simp; exact fun e => h e.symm)]; omega
structure Back (P : List Nd) (ns : List (Nd × Int)) (op : List Nat) (l : List Int) : Prop where
  len : ns.length = P.length
  ol : op.length = l.length
  mono : op.Pairwise (· > ·)
  lt : ∀ j ∈ op, j < P.length
  same : ∀ j (h : j < P.length) (h' : j < ns.length), ns[j].1.kind = P[j].kind ∧ ns[j].1.text = P[j].text ∧ ns[j].1.kids = P[j].kids - leftAt op l j
theorem bump_at {ns : List (Nd × Int)} {op : List Nat} {i : Nat} (h : i < ns.length) (h' : i < (bump ns op).length) : (bump ns op)[i].1.kind = ns[i].1.kind ∧ (bump ns op)[i].1.text = ns[i].1.text ∧ (bump ns op)[i].1.kids = ns[i].1.kids + (if op.head? = some i then 1 else 0) := by
  cases op with
  | nil => simp [bump]
  | cons j r =>
    simp only [bump, List.getElem_modify, List.head?_cons, Option.some.injEq]
    by_cases hj : j = i
    · rw [if_pos hj, if_pos hj]; exact ⟨rfl, rfl, rfl⟩
    · rw [if_neg hj, if_neg hj]; exact ⟨rfl, rfl, by omega⟩
theorem back_add {P : List Nd} {ns : List (Nd × Int)} {op : List Nat} {l : List Int} (h : Back P ns op l) {n : Nd} (hok : nodeOk n = true) (q : Int) : Back (P ++ [n]) (addN ns op n.kind n.text q) (addO ns op n.kind) (pushL n l) := by
  have hl := h.len
  have hk0 : n.kind ≠ 1 → n.kids = 0 := fun hk => by
    unfold nodeOk at hok
    simp only [Bool.and_eq_true, Bool.or_eq_true, decide_eq_true_eq] at hok
    rcases hok.1.2 with h | h
    · exact absurd h hk
    · exact h
  have hnot : P.length ∉ op := fun hm => by have := h.lt _ hm; omega
  have hal : (addN ns op n.kind n.text q).length = P.length + 1 := by simp [addN, bump_len, hl]
  have hdl : op.length = (decL l).length := by rw [decL_len]; exact h.ol
  have hleft : ∀ i, i ≠ P.length → leftAt (addO ns op n.kind) (pushL n l) i = leftAt op l i - (if op.head? = some i then 1 else 0) := fun i hi => by
    unfold addO pushL
    by_cases hk : n.kind = 1
    · rw [if_pos hk, if_pos hk]
      show (if i = ns.length then n.kids else leftAt op (decL l) i) = _
      rw [if_neg (by omega)]; exact leftAt_dec h.ol i
    · rw [if_neg hk, if_neg hk]; exact leftAt_dec h.ol i
  refine ⟨by rw [hal]; simp, ?_, ?_, ?_, ?_⟩
  · unfold addO; rw [pushL_len]
    by_cases hk : n.kind = 1
    · rw [if_pos hk, if_pos hk, List.length_cons, h.ol]
    · rw [if_neg hk, if_neg hk, h.ol]; rfl
  · unfold addO
    by_cases hk : n.kind = 1
    · rw [if_pos hk, List.pairwise_cons]
      exact ⟨fun j hj => by have := h.lt j hj; omega, h.mono⟩
    · rw [if_neg hk]; exact h.mono
  · intro j hj
    rw [List.length_append]
    unfold addO at hj
    split at hj
    · rcases List.mem_cons.1 hj with rfl | hj
      · simp; omega
      · have := h.lt j hj; simp; omega
    · have := h.lt j hj; simp; omega
  · intro j hj hj'
    rw [List.length_append] at hj
    by_cases hlt : j < P.length
    · have hjn : j < ns.length := by omega
      have hjb : j < (bump ns op).length := by rw [bump_len]; exact hjn
      obtain ⟨s1, s2, s3⟩ := h.same j hlt hjn
      obtain ⟨b1, b2, b3⟩ := bump_at hjn hjb
      have e1 : (addN ns op n.kind n.text q)[j] = (bump ns op)[j] := by
        unfold addN; exact List.getElem_append_left hjb
      have e2 : (P ++ [n])[j] = P[j] := List.getElem_append_left hlt
      rw [e1, e2, b1, b2, b3, s1, s2, s3, hleft j (by omega)]
      exact ⟨rfl, rfl, by omega⟩
    · obtain rfl : j = P.length := by simp at hj; omega
      have e1 : (addN ns op n.kind n.text q)[P.length] = ((⟨n.kind, n.text, 0⟩ : Nd), q) := by
        show (bump ns op ++ [((⟨n.kind, n.text, 0⟩ : Nd), q)])[P.length]'(by simp [bump_len, hl]) = _
        rw [List.getElem_append_right (by rw [bump_len]; omega)]
        simp [bump_len, hl]
      have e2 : (P ++ [n])[P.length] = n := by rw [List.getElem_append_right (Nat.le_refl _)]; simp
      rw [e1, e2]
      refine ⟨rfl, rfl, ?_⟩
      show (0 : Int) = n.kids - _
      unfold addO pushL
      by_cases hk : n.kind = 1
      · rw [if_pos hk, if_pos hk]
        show (0 : Int) = n.kids - (if P.length = ns.length then n.kids else _)
        rw [if_pos hl.symm]; omega
      · rw [if_neg hk, if_neg hk, hk0 hk, leftAt_none _ _ _ hnot]; rfl
theorem back_close {P : List Nd} {ns : List (Nd × Int)} {j : Nat} {op : List Nat} {l : List Int} (h : Back P ns (j :: op) (0 :: l)) : Back P ns op l := by
  have hm := List.pairwise_cons.1 h.mono
  refine ⟨h.len, by have := h.ol; simpa using this, hm.2, fun i hi => h.lt i (List.mem_cons_of_mem _ hi), fun i hi hi' => ?_⟩
  obtain ⟨s1, s2, s3⟩ := h.same i hi hi'
  refine ⟨s1, s2, ?_⟩
  rw [s3]
  show _ - (if i = j then (0 : Int) else leftAt op l i) = _
  by_cases hij : i = j
  · subst hij
    rw [if_pos rfl, leftAt_none op l i (fun hm2 => by have := hm.1 i hm2; omega)]
  · rw [if_neg hij]
theorem close_run {s : List UInt8} {P : List Nd} : ∀ (l : List Int) (st : RS) (X : List UInt8), s.drop st.i = List.replicate (l.length - (popZ l).length) 41 ++ X → Back P st.ns st.op l →
    ∃ st' : RS, s.drop st'.i = X ∧ Back P st'.ns st'.op (popZ l) ∧ ∀ R, Run s st' R → Run s st R
  | [], st, X, hd, hb => ⟨st, by simpa [popZ] using hd, hb, fun _ h => h⟩
  | a :: r, st, X, hd, hb => by
    by_cases ha : a = 0
    · subst ha
      have hp : popZ (0 :: r) = popZ r := by simp [popZ]
      have hpl := popZ_len r
      rw [hp, List.length_cons, show r.length + 1 - (popZ r).length = (r.length - (popZ r).length) + 1 by omega, List.replicate_succ, List.cons_append] at hd
      obtain ⟨i, ns, op⟩ := st
      dsimp only at hd hb
      cases op with
      | nil => have := hb.ol; simp at this
      | cons j op =>
        have hstep : stepM s ⟨i, ns, j :: op⟩ = .inr ⟨i + 1, ns, op⟩ := by
          rw [stepM_cons hd]
          unfold stepC
          rw [if_neg (by decide), if_neg (by decide), if_pos (by decide)]; rfl
        have hd2 : s.drop (i + 1) = List.replicate (r.length - (popZ r).length) 41 ++ X := drop_on (a := [41]) hd
        obtain ⟨st', h1, h2, h3⟩ := close_run r ⟨i + 1, ns, op⟩ X hd2 (back_close hb)
        rw [hp]
        exact ⟨st', h1, h2, fun R hR => .next hstep (h3 R hR)⟩
    · have hp : popZ (a :: r) = a :: r := by simp [popZ, ha]
      rw [hp] at hd ⊢
      exact ⟨st, by simpa using hd, hb, fun _ h => h⟩
theorem sep_run {s : List UInt8} {d : UInt8} {X : List UInt8} {st : RS} (hd : s.drop st.i = d :: X) (hb : blankB d = true) : ∀ R, Run s ⟨st.i + 1, st.ns, st.op⟩ R → Run s st R := fun R hR => by
  refine .next (st' := ⟨st.i + 1, st.ns, st.op⟩) ?_ hR
  rw [stepM_cons hd]; unfold stepC; rw [if_pos hb]
theorem strOf_list (t : ByteArray) : strOf t.data.toList = t := ba_eq (strOf_toList _)
theorem read_back (s : List UInt8) : ∀ (r : List Nd) (st : RS) (P : List Nd) (l : List Int) (z : Nat), s.drop st.i = rowI r l → fitF r z l = true → P.length + r.length ≤ 8000 → Back P st.ns st.op l →
    ∃ ns', Run s st (RR.ok ns') ∧ ns'.map Prod.fst = P ++ r
  | [], st, P, l, z, hd, hf, _, hb => by
    have hl : l = [] := by simpa [fitF] using hf
    subst hl
    have ho : st.op = [] := List.eq_nil_of_length_eq_zero hb.ol
    refine ⟨st.ns, .done ?_, ?_⟩
    · rw [stepM_nil hd, ho]; rfl
    · rw [List.append_nil]
      refine List.ext_getElem (by rw [List.length_map, hb.len]) (fun i h1 h2 => ?_)
      rw [List.getElem_map]
      have h1' : i < st.ns.length := by simpa using h1
      obtain ⟨e1, e2, e3⟩ := hb.same i h2 h1'
      rw [ho, leftAt_none [] [] i (by simp)] at e3
      generalize st.ns[i] = x at e1 e2 e3 ⊢
      obtain ⟨⟨k, t, kd⟩, q⟩ := x
      dsimp only at e1 e2 e3 ⊢
      subst e1 e2
      rw [show kd = P[i].kids by omega]
  | n :: r, st, P, l, z, hd, hf, hlen, hb => by
    obtain ⟨h1, hok, h9, hfs⟩ := fitF_step hf
    have hE : addE st.ns st.op n.kind = 0 := by
      unfold addE
      rw [if_neg (by rw [hb.len]; simp at hlen; omega), if_neg]
      rintro ⟨a, b⟩
      rw [hb.ol] at b
      exact h9 ⟨a, b⟩
    have hrow : rowI (n :: r) l = tokT n.kind n.t ++ (List.replicate (closedL n l) 41 ++ (sepI n l ++ rowI r (stepL n l))) := by
      show tokT n.kind n.t ++ List.replicate (closedL n l) 41 ++ sepI n l ++ rowI r (stepL n l) = _
      simp only [List.append_assoc]
    rw [hrow] at hd
    -- the token
    have htok : stepM s st = .inr ⟨st.i + (tokT n.kind n.t).length, addN st.ns st.op n.kind n.text st.i, addO st.ns st.op n.kind⟩ := by
      by_cases hk : n.kind = 1
      · have ht : tokT n.kind n.t = [40] := by rw [hk]; rfl
        rw [ht] at hd ⊢
        rw [stepM_cons hd]
        unfold stepC
        rw [if_neg (by decide), if_neg (by decide), if_neg (by decide)]
        have hnl : nodeL (40 :: ([] ++ (List.replicate (closedL n l) 41 ++ (sepI n l ++ rowI r (stepL n l))))) = some (1, [], 1) := by
          unfold nodeL; simp only [List.head?_cons, if_true]
        have htx : n.text = strOf [] := by
          obtain ⟨_, _, hw⟩ := nodeOk_split hok
          rw [hk] at hw
          have hw' : n.t.isEmpty = true := hw
          have he : n.t = [] := List.isEmpty_iff.1 hw'
          rw [← strOf_list n.text]
          exact congrArg strOf he
        show goM st (nodeL (40 :: ([] ++ (List.replicate (closedL n l) 41 ++ (sepI n l ++ rowI r (stepL n l)))))) = _
        rw [hnl]
        show (if addE st.ns st.op 1 = 0 then _ else _) = _
        rw [← hk, if_pos hE, htx]
        rfl
      · have hdel : ∃ d X, endB d ∧ List.replicate (closedL n l) 41 ++ (sepI n l ++ rowI r (stepL n l)) = d :: X := by
          cases hc : closedL n l with
          | succ m => exact ⟨41, _, .inl rfl, by rw [List.replicate_succ, List.cons_append]⟩
          | zero =>
            unfold sepI
            split
            · exact ⟨10, _, .inr (.inr rfl), rfl⟩
            · rw [if_pos (.inl hk)]; exact ⟨32, _, .inr (.inl rfl), rfl⟩
        obtain ⟨d, X, hde, hX⟩ := hdel
        obtain ⟨c, u, hcu, hbl, h59, h41, hnl⟩ := tok_back hok hk X hde
        rw [hX] at hd
        have hd' := hd
        rw [hcu, List.cons_append] at hd'
        rw [stepM_cons hd']
        unfold stepC
        rw [if_neg (by rw [hbl]; decide), if_neg h59, if_neg h41, ← List.cons_append, ← hcu, hnl]
        show (if addE st.ns st.op n.kind = 0 then Sum.inr (⟨st.i + (tokT n.kind n.t).length, addN st.ns st.op n.kind (strOf n.t) st.i, addO st.ns st.op n.kind⟩ : RS) else _) = _
        rw [if_pos hE, show strOf n.t = n.text from strOf_list n.text]
    have hd1 := drop_on hd
    obtain ⟨st2, hd2, hb2, hr2⟩ := close_run (pushL n l) ⟨st.i + (tokT n.kind n.t).length, addN st.ns st.op n.kind n.text st.i, addO st.ns st.op n.kind⟩ _ hd1 (back_add hb hok st.i)
    have hlen2 : (P ++ [n]).length + r.length ≤ 8000 := by simp at hlen ⊢; omega
    have hfin : ∀ st3 : RS, s.drop st3.i = rowI r (stepL n l) → Back (P ++ [n]) st3.ns st3.op (stepL n l) → (∀ R, Run s st3 R → Run s st2 R) → ∃ ns', Run s st (RR.ok ns') ∧ ns'.map Prod.fst = P ++ n :: r := fun st3 a b c => by
      obtain ⟨ns', h5, h6⟩ := read_back s r st3 (P ++ [n]) (stepL n l) _ a hfs hlen2 b
      exact ⟨ns', .next htok (hr2 _ (c _ h5)), by rw [h6]; simp⟩
    unfold sepI at hd2
    split at hd2
    · exact hfin ⟨st2.i + 1, st2.ns, st2.op⟩ (drop_on (a := [10]) hd2) hb2 (sep_run hd2 (by decide))
    · split at hd2
      · exact hfin ⟨st2.i + 1, st2.ns, st2.op⟩ (drop_on (a := [32]) hd2) hb2 (sep_run hd2 (by decide))
      · exact hfin st2 hd2 hb2 (fun _ h => h)
theorem back_new : Back [] [] [] [] := ⟨rfl, rfl, List.Pairwise.nil, by simp, fun j h => by simp at h⟩
/-- What is written is read. -/
theorem reads_back {S : ByteArray} {ns : List Nd} (hf : fits ns = true) (hS : S.data.toList = rowI ns []) (hz : S.size ≤ 20000) : ∃ ns', ReadsTo S (RR.ok ns') ∧ ns'.map Prod.fst = ns := by
  unfold fits at hf
  rw [Bool.and_eq_true, decide_eq_true_eq] at hf
  obtain ⟨ns', h1, h2⟩ := read_back S.data.toList ns ⟨0, [], []⟩ [] [] 0 (by rw [List.drop_zero]; exact hS) hf.2 (by simpa using hf.1) back_new
  exact ⟨ns', .inr ⟨hz, h1⟩, h2⟩
end Go.Proofs.YtdngpnlbhadbpaaDoor
namespace Go.Proofs.YtdngpnlbhadbpaaDoor
open Go.ChangeShapes Go.WideShapes Go.ChangeAt Go.RowKit
theorem size_any (a : Option Addr) (n cap : Nat) (w : World) (h : n ≤ maxLen) :
    Calls Tryd.prog 29 #[.slice a n cap, .int .i64 6, .int .i64 60] w fun e w' => ∃ r : Nat, e = .returned (.int .i64 (r : Nat)) ∧ r ≤ 60 ∧ w' = w := by
  unfold maxLen at h
  by_cases hc : 60 < n / 6
  · have z : decide ((60 : Int) < (n : Int) / 6) = true := by rw [decide_eq_true_iff]; omega
    go_enter Tryd.func29, Tryd.ntmps29
    go_wp2_with fail
    go_ret
    exact ⟨60, rfl, by omega, rfl⟩
  · have z : decide ((60 : Int) < (n : Int) / 6) = false := by rw [decide_eq_false_iff_not]; omega
    go_enter Tryd.func29, Tryd.ntmps29
    go_wp2_with fail
    go_ret
    exact ⟨n / 6, ret_int (by omega), by omega, rfl⟩
theorem one2_any (g N k : Nat) (w : World) (h : IsCur g N w k) (hk : k ≤ 1000000000) :
    Calls Tryd.prog 32 #[.pointer (some ⟨g, 0, none⟩)] w fun e w' => ∃ (b : Bool) (k' : Nat), e = .returned (.bool b) ∧ k' ≤ k + 2 ∧ IsCur g N w' k' ∧ Bar g w w' := by
  have HC := hidG h
  clear h
  go_enter Tryd.func32, Tryd.ntmps32
  go_wp2_with fail
  refine (pickX_any g N k 2 _ _ HC.out rfl (by omega) (by decide) (by decide)).mono ?_
  rintro e w1 ⟨r, k1, rfl, hr, hk1, hc1, hb1⟩
  have HC1 := hidG hc1
  have HB1 := hidG hb1
  clear hc1 hb1
  go_wp2_with fail
  go_ret
  exact ⟨_, k1, rfl, hk1, HC1.out, HB1.out⟩
theorem treesX_any (g N k most : Nat) (x : Int) (w : World) (h : IsCur g N w k) (hx : x = (most : Nat)) (hk : k ≤ 1000000) (hmo : most ≤ 63) :
    Calls Tryd.prog 33 #[.pointer (some ⟨g, 0, none⟩), .int .i64 x] w fun e w' => ∃ (v : Value) (ns : List (Nd × Int)) (k' : Nat), e = .returned v ∧ w'.ownsRow w.heap.size 31 4 v ns.length (cellsN ns) ∧ SmN ns ∧ ns.length ≤ 400 ∧ k' ≤ k + 8000 ∧ IsCur g N w' k' ∧ Bar g w w' := by
  subst hx; exact trees_any g N k most w h hk hmo
theorem spoilt_any (g N k base : Nat) (p : Option Addr) (c : Nat) (ns : List (Nd × Int)) (w : World) (h : IsCur g N w k) (hk : k ≤ 1000000) (hN : N ≤ base) (hn : ns.length ≤ 400) (hs : SmN ns) (ho : w.ownsRow base 31 4 (.slice p ns.length c) ns.length (cellsN ns)) :
    Calls Tryd.prog 34 #[.pointer (some ⟨g, 0, none⟩), .slice p ns.length c] w fun e w' => ∃ (v : Value) (ns' : List (Nd × Int)), e = .returned v ∧ w'.ownsRow base 31 4 v ns'.length (cellsN ns') ∧ SmO ns' ∧ ns'.length ≤ 400 ∧ Below g w w' := by
  rcases Nat.eq_zero_or_pos ns.length with h0 | h0
  · rw [h0]
    refine (spoilt_none g p c w).mono ?_
    rintro e w' ⟨rfl, rfl⟩
    rw [h0] at ho
    have hx : ns = [] := List.eq_nil_of_length_eq_zero h0
    subst hx
    exact ⟨_, [], rfl, ho, hs.out, by simp, Below.refl _ _⟩
  · obtain ⟨b, cap, he, _, _⟩ := ho.form h0
    cases he
    exact spoilt_row g N k base b c ns w h hk hN h0 hn hs ho
theorem made_at (z : Array Value) (n i : Nat) (h : i < n) : (madeCells z n).toList[i]? = some (z[i % z.size]!) := by
  simp [madeCells, h]
theorem nodes_made (n : Nat) : (madeCells #[.int .i64 0, .string ⟨#[]⟩, .int .i64 0, .int .i64 0] (n * 4)).toList = cellsN (List.replicate n ((⟨0, ⟨#[]⟩, 0⟩ : Nd), (0 : Int))) := by
  apply List.ext_getElem?
  intro i
  by_cases h : i < n * 4
  · have e : i = (i / 4) * 4 + i % 4 := by omega
    have hm : i % 4 < 4 := Nat.mod_lt _ (by decide)
    have h1 := made_at #[.int .i64 0, .string ⟨#[]⟩, .int .i64 0, .int .i64 0] (n * 4) i h
    have h2 := cellsN_at (List.replicate n ((⟨0, ⟨#[]⟩, 0⟩ : Nd), (0 : Int))) (i / 4) (i % 4) (by simp; omega) hm
    rw [← e] at h2
    rw [h1, h2, List.getElem_replicate]
    show some (#[Value.int .i64 0, Value.string ⟨#[]⟩, Value.int .i64 0, Value.int .i64 0][i % 4]!) = _
    generalize i % 4 = d at hm
    rcases d with _ | _ | _ | _ | d
    · rfl
    · rfl
    · rfl
    · rfl
    · omega
  · rw [List.getElem?_eq_none (by rw [Array.length_toList, size_madeCells]; omega), List.getElem?_eq_none (by rw [cellsN_len]; simp; omega)]
theorem bytes_made (n : Nat) : (madeCells #[.int .u8 0] (n * 1)).toList = Lib.byteCells (List.replicate n 0) := by
  apply List.ext_getElem?
  intro i
  by_cases h : i < n * 1
  · rw [made_at _ _ _ h]
    have : i < n := by omega
    simp [Lib.byteCells, this, Nat.mod_one]
  · rw [List.getElem?_eq_none (by rw [Array.length_toList, size_madeCells]; omega), List.getElem?_eq_none (by simp [Lib.byteCells]; omega)]
theorem bytes_made' (n : Nat) : (madeCells #[.int .u8 0] n).toList = Lib.byteCells (List.replicate n 0) := by
  rw [← bytes_made, Nat.mul_one]
theorem SmO.snoc {ns : List (Nd × Int)} (h : SmO ns) {x : Nd × Int} (h1 : x.1.text.size ≤ 10000 ∧ -2 ≤ x.1.kids ∧ x.1.kids ≤ 11) : SmO (ns ++ [x]) := fun y hy => by
  rcases List.mem_append.1 hy with hy | hy
  · exact h y hy
  · obtain rfl := List.mem_singleton.1 hy
    exact h1
theorem bytes_set (L : List UInt8) (i : Nat) (x : UInt8) : (Lib.byteCells L).set i (.int .u8 (x.toNat : Int)) = Lib.byteCells (L.set i x) := by
  simp [Lib.byteCells, List.map_set]
theorem nodes_set : ∀ (ns : List (Nd × Int)) (i : Nat) (x : Nd × Int), i < ns.length → ((((cellsN ns).set (i * 4) (.int .i64 x.1.kind)).set (i * 4 + 1) (.string x.1.text)).set (i * 4 + 2) (.int .i64 x.1.kids)).set (i * 4 + 3) (.int .i64 x.2) = cellsN (ns.set i x)
  | [], i, x, h => by simp at h
  | y :: r, 0, x, _ => by simp [cellsN, nodeC]
  | y :: r, i + 1, x, h => by
    have ih := nodes_set r i x (by simpa using h)
    show ((((nodeC y ++ cellsN r).set ((i + 1) * 4) _).set ((i + 1) * 4 + 1) _).set ((i + 1) * 4 + 2) _).set ((i + 1) * 4 + 3) _ = nodeC y ++ cellsN (r.set i x)
    rw [← ih]
    have e0 : (i + 1) * 4 = (nodeC y).length + i * 4 := by simp [nodeC]; omega
    rw [e0]
    simp only [Nat.add_assoc]
    simp [List.set_append_right]
theorem row_at4 {W : World} {base g c : Nat} {ns : List (Nd × Int)} (h : W.ownsRow base 31 4 (.slice (some ⟨g, 0, none⟩) ns.length c) ns.length (cellsN ns)) {i : Nat} (hi : i < ns.length) :
    W.cell? ⟨g, i * 4, none⟩ = some (.int .i64 ns[i].1.kind) ∧ W.cell? ⟨g, i * 4 + 1, none⟩ = some (.string ns[i].1.text) ∧ W.cell? ⟨g, i * 4 + 2, none⟩ = some (.int .i64 ns[i].1.kids) ∧ W.cell? ⟨g, i * 4 + 3, none⟩ = some (.int .i64 ns[i].2) := by
  have e : ∀ d, d < 4 → W.cell? ⟨g, i * 4 + d, none⟩ = (nodeC ns[i])[d]? := fun d hd => by
    rw [h.cellAt (i * 4 + d) (by omega), cellsN_at ns i d hi hd]
  have e0 := e 0 (by decide)
  rw [Nat.add_zero] at e0
  exact ⟨e0, e 1 (by decide), e 2 (by decide), e 3 (by decide)⟩
theorem eqNR_none (p1 p2 : Option Addr) (c1 c2 : Nat) (w : World) :
    Calls Tryd.prog 14 #[.slice p1 0 c1, .slice p2 0 c2] w fun e w' => e = .returned (.bool true) ∧ Below w.heap.size w w' := by
  go_enter Tryd.func14, Tryd.ntmps14
  go_wp2_with fail
  go_loop [5] (fun i => i = .int .i64 0) (fun _ => 0)
  case atStart => rfl
  case round =>
    subst hrel
    go_wp2_with fail
    go_ret
    exact ⟨rfl, Below.refl _ _⟩
theorem eqNode_self (k q kd : Int) (s : ByteArray) (w : World) :
    Calls Tryd.prog 28 #[.agg #[.int .i64 k, .string s, .int .i64 kd, .int .i64 q], .agg #[.int .i64 k, .string s, .int .i64 kd, .int .i64 q]] w fun e w' => e = .returned (.bool true) ∧ Below w.heap.size w w' := by
  go_enter Tryd.func28, Tryd.ntmps28
  go_wp2_with fail
  go_ret
  exact ⟨rfl, (below_alloc _ _).trans ((below_alloc _ _).mono (by simp))⟩
theorem own_set4 {W : World} {base G c : Nat} {ns : List (Nd × Int)} (h : W.ownsRow base 31 4 (.slice (some ⟨G, 0, none⟩) ns.length c) ns.length (cellsN ns)) (i : Nat) (hi : i < ns.length) (x : Nd × Int) :
    ((((W.setCell ⟨G, i * 4, none⟩ (.int .i64 x.1.kind)).setCell ⟨G, i * 4 + 1, none⟩ (.string x.1.text)).setCell ⟨G, i * 4 + 2, none⟩ (.int .i64 x.1.kids)).setCell ⟨G, i * 4 + 3, none⟩ (.int .i64 x.2)).ownsRow base 31 4 (.slice (some ⟨G, 0, none⟩) ns.length c) ns.length (cellsN (ns.set i x)) := by
  rw [← nodes_set ns i x hi]
  exact ((((h.stored (i * 4) (.int .i64 x.1.kind)).1.stored (i * 4 + 1) (.string x.1.text)).1.stored (i * 4 + 2) (.int .i64 x.1.kids)).1.stored (i * 4 + 3) (.int .i64 x.2)).1
theorem SmO.put {ns : List (Nd × Int)} (h : SmO ns) (i : Nat) {x : Nd × Int} (h1 : x.1.text.size ≤ 10000 ∧ -2 ≤ x.1.kids ∧ x.1.kids ≤ 11) : SmO (ns.set i x) := fun y hy => by
  rcases List.mem_or_eq_of_mem_set hy with hy | rfl
  · exact h y hy
  · exact h1
theorem info_byte : ∃ i : TypeInfo, Tryd.prog.info? 5 = some i ∧ i.zero = some (.int .u8 0) ∧ i.size = 1 ∧ i.bytes = 1 := ⟨_, rfl, rfl, rfl, rfl⟩
theorem byte_at {L : List UInt8} {i : Nat} (h : i < L.length) : (Lib.byteCells L)[i]? = some (.int .u8 (L[i].toNat : Int)) := by
  simp [Lib.byteCells, List.getElem?_eq_getElem h]
theorem strOf_len (l : List UInt8) : (strOf l).size = l.length := by simp [strOf, ByteArray.size]
theorem conv_L {base G m : Nat} {W : World} {l : List UInt8} (h : W.ownsRow base 5 1 (.slice (some ⟨G, 0, none⟩) m m) m (Lib.byteCells l)) (hl : l.length = m) :
    (convert 22 9 (.slice (some ⟨G, 0, none⟩) m m)).run Tryd.prog W = .ok (.string (strOf l)) W := by
  subst hl
  refine run_convert_bytes_back (P := Tryd.prog) W 22 9 5 ⟨G, 0, none⟩ l.length l Tryd.underlying22 Tryd.underlying5 Tryd.underlying9 (fun j hj => ?_)
  exact h.cells (g := G) rfl j (.int .u8 (l[j].toNat : Int)) (by simp [Lib.byteCells, List.getElem?_eq_getElem hj])
theorem nodes_text : ∀ (ns : List (Nd × Int)) (j : Nat) (h : j < ns.length) (U : ByteArray), (cellsN ns).set (j * 4 + 1) (.string U) = cellsN (ns.set j (⟨ns[j].1.kind, U, ns[j].1.kids⟩, ns[j].2))
  | [], j, h, _ => by simp at h
  | x :: r, 0, _, U => by simp [cellsN, nodeC]
  | x :: r, j + 1, h, U => by
    show (nodeC x ++ cellsN r).set ((j + 1) * 4 + 1) _ = _
    rw [List.set_append_right _ _ (by simp [nodeC]; omega)]
    have : (j + 1) * 4 + 1 - (nodeC x).length = j * 4 + 1 := by simp [nodeC]; omega
    rw [this]
    have hj : j < r.length := by simpa using h
    rw [nodes_text r j hj U]; rfl
theorem SmN.retext {ns : List (Nd × Int)} (h : SmN ns) {j : Nat} (hj : j < ns.length) {U : ByteArray} (hU : U.size ≤ 10000) : SmN (ns.set j (⟨ns[j].1.kind, U, ns[j].1.kids⟩, ns[j].2)) := fun y hy => by
  rcases List.mem_or_eq_of_mem_set hy with hy | rfl
  · exact h y hy
  · exact ⟨hU, (h ns[j] (List.getElem_mem hj)).2⟩
theorem SmO.rep (n : Nat) : SmO (List.replicate n ((⟨0, ⟨#[]⟩, 0⟩ : Nd), (0 : Int))) := fun x hx => by
  obtain ⟨_, rfl⟩ := List.mem_replicate.1 hx
  show (0 : Nat) ≤ 10000 ∧ (-2 : Int) ≤ 0 ∧ (0 : Int) ≤ 11
  omega
theorem own_lower {W : World} {base base' : Nat} {e : TypeId} {sz : Nat} {v : Value} {n : Nat} {xs : List Value} (h : W.ownsRow base e sz v n xs) (hb : base' ≤ base) : W.ownsRow base' e sz v n xs := by
  refine ⟨h.1, ?_⟩
  rcases h.2 with h0 | ⟨g, cap, cur, rfl, h1, h2, h3⟩
  · exact .inl h0
  · exact .inr ⟨g, cap, cur, rfl, by omega, h2, h3⟩
set_option maxRecDepth 100000 in
set_option maxHeartbeats 8000000 in
theorem l3Nodes_any (a : Option Addr) (n cap : Nat) (w : World) (h : CodeArg w a n cap) :
    Calls Tryd.prog 15 #[.slice a n cap] w fun e w' => ∃ (v : Value) (ns : List (Nd × Int)), e = .returned v ∧ w'.ownsRow w.heap.size 31 4 v ns.length (cellsN ns) ∧ SmO ns ∧ ns.length ≤ 8001 ∧ Below w.heap.size w w' := by
  have HA := hidG h
  have hn := h.1
  have hcp := h.2.1
  have HCP := hidG (Nat.le_trans hn hcp)
  clear h
  go_enter Tryd.func15, Tryd.ntmps15
  go_wp2_with fail
  refine (size_any a n cap _ HCP.out).mono ?_
  rintro e w' ⟨sz, rfl, hsz, hw⟩
  subst hw
  have HC0 := hidG (cur_new HA.out 55)
  go_wp2_with fail
  refine (pickX_any w.heap.size (w.heap.size + 1) 0 12 _ _ HC0.out rfl (by omega) (by decide) (by decide)).mono ?_
  rintro e w1 ⟨k, k1, rfl, hk, hk1, hc1, hb1⟩
  have HC1 := hidG hc1
  have HB1 : Hid (Below w.heap.size w w1) := cur_end (below_alloc w _) hb1
  have hl1 := HC1.out.2.1
  clear hc1 hb1
  by_cases hk0 : k = 0
  · subst hk0
    go_wp2_with fail
    refine (deep_any w.heap.size (w.heap.size + 1) k1 _ HC1.out (by omega)).mono ?_
    rintro e w2 ⟨v, ns, k2, rfl, ho, hsm, hln, hk2, hc2, hb2⟩
    have HF : Hid (w2.ownsRow w.heap.size 31 4 v ns.length (cellsN ns) ∧ SmO ns ∧ ns.length ≤ 8001 ∧ Below w.heap.size w w2) := ⟨own_lower ho (by omega), hsm.out, by omega, cur_end HB1.out hb2⟩
    clear ho hsm hln hk2 hc2 hb2
    go_wp2_with fail
    go_ret
    exact ⟨v, ns, rfl, HF.out⟩
  have z0 : ((k : Int) == 0) = false := by rw [beq_eq_false_iff_ne]; omega
  by_cases hk3 : 3 ≤ k
  · have z1 : ((k : Int) == 1) = false := by rw [beq_eq_false_iff_ne]; omega
    have z2 : ((k : Int) == 2) = false := by rw [beq_eq_false_iff_ne]; omega
    go_wp2_with fail
    refine (treesX_any w.heap.size (w.heap.size + 1) k1 (3 + sz) _ _ HC1.out (by omega) (by omega) (by omega)).mono ?_
    rintro e w2 ⟨v, ns, k2, rfl, ho, hsm, hln, hk2, hc2, hb2⟩
    obtain ⟨p, c, rfl⟩ := own_shape ho
    have HO2 := hidG ho
    have HC2 := hidG hc2
    have HSM := hidG hsm
    have HB2 : Hid (Below w.heap.size w w2) := cur_end HB1.out hb2
    clear ho hsm hc2 hb2
    by_cases hk6 : k < 6
    · go_wp2_with fail
      refine (spoilt_any w.heap.size (w.heap.size + 1) k2 w1.heap.size p c ns _ HC2.out (by omega) hl1 hln HSM.out HO2.out).mono ?_
      rintro e w3 ⟨v, ns', rfl, ho3, hs3, hl3, hb3⟩
      have HF : Hid (w3.ownsRow w.heap.size 31 4 v ns'.length (cellsN ns') ∧ SmO ns' ∧ ns'.length ≤ 8001 ∧ Below w.heap.size w w3) := ⟨own_lower ho3 (by omega), hs3, by omega, HB2.out.trans hb3⟩
      clear ho3 hs3 hl3 hb3
      go_wp2_with fail
      go_ret
      exact ⟨v, ns', rfl, HF.out⟩
    · have HF : Hid (w2.ownsRow w.heap.size 31 4 (.slice p ns.length c) ns.length (cellsN ns) ∧ SmO ns ∧ ns.length ≤ 8001 ∧ Below w.heap.size w w2) := ⟨own_lower HO2.out (by omega), HSM.out.out, by omega, HB2.out⟩
      go_wp2_with fail
      go_ret
      exact ⟨_, ns, rfl, HF.out⟩
  by_cases hk1' : k = 1
  · subst hk1'
    go_wp2_with fail
    refine (pickX_any w.heap.size (w.heap.size + 1) k1 3 _ _ HC1.out rfl (by omega) (by decide) (by decide)).mono ?_
    rintro e w2 ⟨r, k2, rfl, hr, hk2, hc2, hb2⟩
    have HB2 : Hid (Below w.heap.size w w2) := cur_end HB1.out hb2
    have hl2 := HB2.out.size
    clear hc2 hb2
    obtain ⟨i0, hinf, hz0, hz1, hz2⟩ := info_node
    go_wp2_with (at_make; refine wpList_make_full _ rfl _ _ 23 rfl w.heap.size 31 i0 (.agg #[.int .i64 0, .string ⟨#[]⟩, .int .i64 0, .int .i64 0]) 4 Tryd.underlying23 hinf hz0 hz1 .i64 .i64 _ _ (7999 + r) rfl rfl ?m0 ?m1 ?m2 ?m3 ?m4 ?_)
    try (case m0 => first | rfl | omega)
    try (case m1 => first | rfl | omega)
    try (case m2 => (first | omega | (rw [hz2]; omega)))
    try (case m3 => (unfold maxLen; omega))
    try (case m4 => exact hl2)
    intro w3 hown hgr
    rw [nodes_made] at hown
    have HB3 : Hid (Below w.heap.size w w3) := HB2.out.grown hgr hl2 (fun k h => by cases h)
    obtain ⟨G, hG⟩ : ∃ G, w2.heap.size = G := ⟨_, rfl⟩
    rw [hG] at hown ⊢
    have hGb : w.heap.size ≤ G := by omega
    clear hgr hG
    have HO3 := hidG hown
    clear hown
    have HM : Hid (∃ m, 7999 + r = m) := ⟨_, rfl⟩
    obtain ⟨m, hm⟩ := HM.out
    rw [hm] at HO3 ⊢
    have hmb : m ≤ 8001 := by omega
    have hm0 : 0 < m := by omega
    go_wp2_with fail
    go_loopw [73] (fun iv wr => ∃ (i : Nat) (ns : List (Nd × Int)), i ≤ m ∧ iv = .int .i64 (i : Nat) ∧ ns.length = m ∧ SmO ns ∧ wr.ownsRow w.heap.size 31 4 (.slice (some ⟨G, 0, none⟩) m m) m (cellsN ns) ∧ Below w.heap.size w wr) (fun iv _ => m - (intOf iv).toNat)
    case atStart => exact ⟨0, _, Nat.zero_le _, rfl, by simp, SmO.rep _, HO3.out, HB3.out⟩
    case round =>
      obtain ⟨i, ns, hi, rfl, hln, hsm, hown, hbe⟩ := hrel
      have HLN := hidG hln
      have HSM := hidG hsm
      have HBE := hidG hbe
      clear hln hsm hbe
      by_cases hlt : i < m
      · have hin : i < ns.length := by have := HLN.out; omega
        have hown' : wr.ownsRow w.heap.size 31 4 (.slice (some ⟨G, 0, none⟩) ns.length m) ns.length (cellsN ns) := by have e := HLN.out; rw [e]; exact hown
        obtain ⟨d0, d1, d2, d3⟩ := row_at4 hown' hin
        have c0 := hown.frozenAt (i * 4)
        have c1 := hown.frozenAt (i * 4 + 1)
        have c2 := hown.frozenAt (i * 4 + 2)
        have c3 := hown.frozenAt (i * 4 + 3)
        have HO : Hid (((((wr.setCell ⟨G, i * 4, none⟩ (.int .i64 2)).setCell ⟨G, i * 4 + 1, none⟩ (.string ⟨#[97]⟩)).setCell ⟨G, i * 4 + 2, none⟩ (.int .i64 0)).setCell ⟨G, i * 4 + 3, none⟩ (.int .i64 0)).ownsRow w.heap.size 31 4 (.slice (some ⟨G, 0, none⟩) m m) m (cellsN (ns.set i (⟨2, ⟨#[97]⟩, 0⟩, 0)))) := by
          have e := own_set4 hown' i hin (⟨2, ⟨#[97]⟩, 0⟩, 0)
          have e2 := HLN.out
          rw [e2] at e
          exact e
        have HB : Hid (Below w.heap.size w ((((wr.setCell ⟨G, i * 4, none⟩ (.int .i64 2)).setCell ⟨G, i * 4 + 1, none⟩ (.string ⟨#[97]⟩)).setCell ⟨G, i * 4 + 2, none⟩ (.int .i64 0)).setCell ⟨G, i * 4 + 3, none⟩ (.int .i64 0))) := (((HBE.out.setCell (p := ⟨G, i * 4, none⟩) hGb _).setCell (p := ⟨G, i * 4 + 1, none⟩) hGb _).setCell (p := ⟨G, i * 4 + 2, none⟩) hGb _).setCell (p := ⟨G, i * 4 + 3, none⟩) hGb _
        clear hown hown'
        go_wp2_with fail
        go_roundw
        case rel => exact ⟨i + 1, _, by omega, by go_num, by rw [List.length_set]; exact HLN.out, HSM.out.put i ⟨by show 1 ≤ 10000; omega, by show (-2 : Int) ≤ 0; omega, by show (0 : Int) ≤ 11; omega⟩, HO.out, HB.out⟩
        case measure => simp [intOf]; omega
      · have z : decide ((i : Int) < (m : Int)) = false := by rw [decide_eq_false_iff_not]; omega
        have HO := hidG hown
        clear hown
        go_wp2_with fail
        go_ret
        exact ⟨_, ns, rfl, by rw [HLN.out]; exact HO.out, HSM.out, by have := HLN.out; omega, HBE.out⟩
  · obtain rfl : k = 2 := by omega
    go_wp2_with fail
    refine (one2_any w.heap.size (w.heap.size + 1) k1 _ HC1.out (by omega)).mono ?_
    rintro e w2 ⟨b, k2, rfl, hk2, hc2, hb2⟩
    have HC2 := hidG hc2
    have HB2 : Hid (Below w.heap.size w w2) := cur_end HB1.out hb2
    clear hc2 hb2
    cases b
    · go_wp2_with fail
      have hl2 := HC2.out.2.1
      refine (treesX_any w.heap.size (w.heap.size + 1) k2 (3 + sz) _ _ HC2.out (by omega) (by omega) (by omega)).mono ?_
      rintro e w3 ⟨v, ns, k3, rfl, ho, hsm, hln, hk3, hc3, hb3⟩
      obtain ⟨p1, c1, rfl⟩ := own_shape ho
      have HO3 := hidG ho
      have HC3 := hidG hc3
      have HSM := hidG hsm
      have HB3 : Hid (Below w.heap.size w w3) := cur_end HB2.out hb3
      have hl3 : w2.heap.size ≤ w3.heap.size := hb3.size
      clear ho hsm hc3 hb3
      obtain ⟨i0, hinf, hz0, hz1, hz2⟩ := info_byte
      go_wp2_with (at_make; refine wpList_make_full _ rfl _ _ 22 rfl w2.heap.size 5 i0 (.int .u8 0) 1 Tryd.underlying22 hinf hz0 hz1 .i64 .i64 _ _ 400 rfl rfl ?m0 ?m1 ?m2 ?m3 ?m4 ?_)
      try (case m0 => rfl)
      try (case m1 => rfl)
      try (case m2 => (first | omega | (rw [hz2]; omega)))
      try (case m3 => (unfold maxLen; omega))
      try (case m4 => exact hl3)
      intro w4 hown hgr
      first | rw [bytes_made] at hown | rw [bytes_made'] at hown
      have HB4 : Hid (Below w.heap.size w w4) := HB3.out.grown hgr HB3.out.size (fun k h => by cases h)
      have hbe4 : Below w3.heap.size w3 w4 := (Below.refl _ _).grown hgr (Nat.le_refl _) (fun k h => by cases h)
      have HC4 : Hid (IsCur w.heap.size (w.heap.size + 1) w4 k3) := HC3.out.below (hbe4.mono HC3.out.2.1)
      have HN4 : Hid (w4.ownsRow w2.heap.size 31 4 (.slice p1 ns.length c1) ns.length (cellsN ns)) := own_other' HO3.out (fun g hg => hgr.block g (HO3.out.lt g hg).2 (by intro e; cases e))
      obtain ⟨G, hG⟩ : ∃ G, w3.heap.size = G := ⟨_, rfl⟩
      have hGb : w2.heap.size ≤ G := by omega
      rw [hG] at hown ⊢
      have HT4 := hidG hown
      clear hgr hG hown hbe4 HO3 HC3 HB3
      go_wp2_with fail
      go_loopw [90] (fun iv wr => ∃ (i : Nat) (L : List UInt8), i ≤ 400 ∧ iv = .int .i64 (i : Nat) ∧ L.length = 400 ∧ wr.ownsRow w2.heap.size 5 1 (.slice (some ⟨G, 0, none⟩) 400 400) 400 (Lib.byteCells L) ∧ wr.ownsRow w2.heap.size 31 4 (.slice p1 ns.length c1) ns.length (cellsN ns) ∧ IsCur w.heap.size (w.heap.size + 1) wr k3 ∧ Below w.heap.size w wr) (fun iv _ => 400 - (intOf iv).toNat)
      case atStart => exact ⟨0, _, Nat.zero_le _, rfl, by simp, HT4.out, HN4.out, HC4.out, HB4.out⟩
      case round =>
        obtain ⟨i, L, hi, rfl, hL, ht, hn5, hc5, hb5⟩ := hrel
        have HL := hidG hL
        have HN5 := hidG hn5
        have HC5 := hidG hc5
        have HB5 := hidG hb5
        clear hL hn5 hb5 hc5
        by_cases hlt : i < 400
        · have hiL : i < L.length := by have := HL.out; omega
          have d0 := ht.cellAt i (by omega)
          rw [byte_at hiL] at d0
          have f0 := ht.frozenAt i
          have hst := ht.stored i (.int .u8 122)
          have HTS : Hid ((wr.setCell ⟨G, i, none⟩ (.int .u8 122)).ownsRow w2.heap.size 5 1 (.slice (some ⟨G, 0, none⟩) 400 400) 400 (Lib.byteCells (L.set i 122))) := by
            unfold Hid; rw [← bytes_set]; exact hst.1
          have HNS : Hid ((wr.setCell ⟨G, i, none⟩ (.int .u8 122)).ownsRow w2.heap.size 31 4 (.slice p1 ns.length c1) ns.length (cellsN ns)) := own_apart' ht HN5.out (by decide) hst.2
          have hbs : Below w2.heap.size wr (wr.setCell ⟨G, i, none⟩ (.int .u8 122)) := (Below.refl _ _).setCell (p := ⟨G, i, none⟩) hGb _
          have HCS : Hid (IsCur w.heap.size (w.heap.size + 1) (wr.setCell ⟨G, i, none⟩ (.int .u8 122)) k3) := HC5.out.below (hbs.mono hl2)
          have HBS : Hid (Below w.heap.size w (wr.setCell ⟨G, i, none⟩ (.int .u8 122))) := HB5.out.setCell (p := ⟨G, i, none⟩) (by show w.heap.size ≤ G; omega) _
          clear hst ht hbs
          go_wp2_with fail
          go_roundw
          case rel => exact ⟨i + 1, _, by omega, by go_num, by rw [List.length_set]; exact HL.out, HTS.out, HNS.out, HCS.out, HBS.out⟩
          case measure => simp [intOf]; omega
        · have z : decide ((i : Int) < 400) = false := by rw [decide_eq_false_iff_not]; omega
          have HSZ : Hid ((strOf L).size = 400) := by unfold Hid; rw [strOf_len]; exact HL.out
          have HT5 := hidG ht
          clear ht
          generalize wr = W5 at HT5 HN5 HC5 HB5
          go_wp2_with fail
          go_loopw [16] (fun iv wr => ∃ (i : Nat) (ns' : List (Nd × Int)), i ≤ 50 ∧ iv = .int .i64 (i : Nat) ∧ ns'.length = ns.length ∧ SmN ns' ∧ wr.ownsRow w2.heap.size 5 1 (.slice (some ⟨G, 0, none⟩) 400 400) 400 (Lib.byteCells L) ∧ wr.ownsRow w2.heap.size 31 4 (.slice p1 ns.length c1) ns.length (cellsN ns') ∧ IsCur w.heap.size (w.heap.size + 1) wr k3 ∧ Below w.heap.size w wr) (fun iv _ => 50 - (intOf iv).toNat)
          case atStart => exact ⟨0, ns, Nat.zero_le _, rfl, rfl, HSM.out, HT5.out, HN5.out, HC5.out, HB5.out⟩
          case round =>
            obtain ⟨j, ns', hj, rfl, hnl, hsm', ht, hn5, hc5, hb5⟩ := hrel
            have HNL := hidG hnl
            have HSM' := hidG hsm'
            have HT6 := hidG ht
            have HN6 := hidG hn5
            have HC6 := hidG hc5
            have HB6 := hidG hb5
            clear hnl hsm' hn5 hc5 hb5
            by_cases hj5 : j < 50
            · by_cases hjl : j < ns.length
              · have hjn : j < ns'.length := by have := HNL.out; omega
                have hown' : wr.ownsRow w2.heap.size 31 4 (.slice p1 ns'.length c1) ns'.length (cellsN ns') := by have e := HNL.out; rw [e]; exact HN6.out
                obtain ⟨gn, cn, he, hgn, hgn2⟩ := HN6.out.form (by omega)
                cases he
                obtain ⟨d0, d1, d2, d3⟩ := row_at4 hown' hjn
                have f1 := HN6.out.frozenAt (j * 4 + 1)
                have hcap := own_cap HN6.out
                unfold maxLen at hcap
                by_cases hk2' : ns'[j].1.kind = 2
                · rw [hk2'] at d0
                  have hcv : (convert 22 9 (.slice (some ⟨G, 0, none⟩) 400 400)).run Tryd.prog wr = .ok (.string (strOf L)) wr := conv_L ht HL.out
                  generalize hU : strOf L = U at hcv HSZ
                  have HTN : Hid ((wr.setCell ⟨gn, j * 4 + 1, none⟩ (.string U)).ownsRow w2.heap.size 31 4 (.slice (some ⟨gn, 0, none⟩) ns.length c1) ns.length (cellsN (ns'.set j (⟨ns'[j].1.kind, U, ns'[j].1.kids⟩, ns'[j].2)))) := by
                    unfold Hid
                    rw [← nodes_text ns' j hjn U]
                    exact (HN6.out.stored (j * 4 + 1) (.string U)).1
                  have HTT : Hid ((wr.setCell ⟨gn, j * 4 + 1, none⟩ (.string U)).ownsRow w2.heap.size 5 1 (.slice (some ⟨G, 0, none⟩) 400 400) 400 (Lib.byteCells L)) := own_apart' HN6.out ht (by decide) (HN6.out.stored (j * 4 + 1) (.string U)).2
                  have hbs : Below w2.heap.size wr (wr.setCell ⟨gn, j * 4 + 1, none⟩ (.string U)) := (Below.refl _ _).setCell (p := ⟨gn, j * 4 + 1, none⟩) hgn _
                  have HCS : Hid (IsCur w.heap.size (w.heap.size + 1) (wr.setCell ⟨gn, j * 4 + 1, none⟩ (.string U)) k3) := HC6.out.below (hbs.mono hl2)
                  have HBS : Hid (Below w.heap.size w (wr.setCell ⟨gn, j * 4 + 1, none⟩ (.string U))) := HB6.out.setCell (p := ⟨gn, j * 4 + 1, none⟩) (by show w.heap.size ≤ gn; omega) _
                  have HSS : Hid (SmN (ns'.set j (⟨ns'[j].1.kind, U, ns'[j].1.kids⟩, ns'[j].2))) := HSM'.out.retext hjn (by have := HSZ.out; show U.size ≤ 10000; omega)
                  clear hbs hown' ht
                  go_wp2_with fail
                  go_roundw
                  case rel => exact ⟨j + 1, _, by omega, by go_num, by rw [List.length_set]; exact HNL.out, HSS.out, HTT.out, HTN.out, HCS.out, HBS.out⟩
                  case measure => simp [intOf]; omega
                · have z2 : (ns'[j].1.kind == 2) = false := by rw [beq_eq_false_iff_ne]; exact hk2'
                  go_wp2_with fail
                  go_roundw
                  case rel => exact ⟨j + 1, ns', by omega, by go_num, HNL.out, HSM'.out, HT6.out, HN6.out, HC6.out, HB6.out⟩
                  case measure => simp [intOf]; omega
              · have z2 : decide ((j : Int) < (ns.length : Int)) = false := by rw [decide_eq_false_iff_not]; omega
                go_wp2_with fail
                clear HN4 HN5
                have hno : wr.ownsRow w2.heap.size 31 4 (.slice p1 ns'.length c1) ns'.length (cellsN ns') := by have e := HNL.out; rw [e]; exact HN6.out
                have hln' : ns'.length ≤ 400 := by have := HNL.out; omega
                have hsp := spoilt_any w.heap.size (w.heap.size + 1) k3 w2.heap.size p1 c1 ns' _ HC6.out (by omega) hl2 hln' HSM'.out hno
                rw [HNL.out] at hsp
                refine hsp.mono ?_
                rintro e w7 ⟨v, ns7, rfl, ho7, hs7, hl7, hb7⟩
                have HF : Hid (w7.ownsRow w.heap.size 31 4 v ns7.length (cellsN ns7) ∧ SmO ns7 ∧ ns7.length ≤ 8001 ∧ Below w.heap.size w w7) := ⟨own_lower ho7 (by omega), hs7, by omega, HB6.out.trans hb7⟩
                clear ho7 hs7 hl7 hb7 hsp
                go_wp2_with fail
                go_ret
                first | exact ⟨v, ns7, rfl, HF.out⟩ | exact ⟨v, rfl, ns7, HF.out⟩
            · have z2 : decide ((j : Int) < 50) = false := by rw [decide_eq_false_iff_not]; omega
              go_wp2_with fail
              clear HN4 HN5
              have hno : wr.ownsRow w2.heap.size 31 4 (.slice p1 ns'.length c1) ns'.length (cellsN ns') := by have e := HNL.out; rw [e]; exact HN6.out
              have hln' : ns'.length ≤ 400 := by have := HNL.out; omega
              have hsp := spoilt_any w.heap.size (w.heap.size + 1) k3 w2.heap.size p1 c1 ns' _ HC6.out (by omega) hl2 hln' HSM'.out hno
              rw [HNL.out] at hsp
              refine hsp.mono ?_
              rintro e w7 ⟨v, ns7, rfl, ho7, hs7, hl7, hb7⟩
              have HF : Hid (w7.ownsRow w.heap.size 31 4 v ns7.length (cellsN ns7) ∧ SmO ns7 ∧ ns7.length ≤ 8001 ∧ Below w.heap.size w w7) := ⟨own_lower ho7 (by omega), hs7, by omega, HB6.out.trans hb7⟩
              clear ho7 hs7 hl7 hb7 hsp
              go_wp2_with fail
              go_ret
              first | exact ⟨v, ns7, rfl, HF.out⟩ | exact ⟨v, rfl, ns7, HF.out⟩
    · go_wp2_with fail
      refine (pickX_any w.heap.size (w.heap.size + 1) k2 80 _ _ HC2.out rfl (by omega) (by decide) (by decide)).mono ?_
      rintro e w3 ⟨r, k3, rfl, hr, hk3, hc3, hb3⟩
      have HB3 : Hid (Below w.heap.size w w3) := cur_end HB2.out hb3
      clear hc3 hb3
      go_wp2_with fail
      go_loopw [6, 7] (fun lv xv wr => ∃ (x : Int) (ns : List (Nd × Int)), xv = .int .i64 x ∧ -3 ≤ x ∧ 4 * (ns.length : Int) ≤ 20040 - x ∧ SmO ns ∧ wr.ownsRow w.heap.size 31 4 lv ns.length (cellsN ns) ∧ Below w.heap.size w wr) (fun _ xv _ => (intOf xv + 3).toNat)
      case atStart => exact ⟨_, [], rfl, by omega, by simp; omega, fun x hx => by simp at hx, World.ownsRow_nil _ _ _ _, HB3.out⟩
      case round =>
        obtain ⟨x, ns, rfl, hx0, hxn, hsm, hown, hbe⟩ := hrel
        obtain ⟨p1, c1, rfl⟩ := own_shape hown
        have hnl : ns.length ≤ 8001 := by omega
        have HSM := hidG hsm
        have HO := hidG hown
        have HBE := hidG hbe
        clear hsm hown hbe
        obtain ⟨W1, hW1⟩ : ∃ W1, wr = W1 := ⟨_, rfl⟩
        subst hW1
        by_cases hx : 0 < x
        · by_cases h9 : 9000 < x
          · skip
            obtain ⟨M, hM, hM0, hM1⟩ : ∃ M : Nat, (9000 : Int) = M ∧ 0 < M ∧ M ≤ 9000 := ⟨(9000 : Int).toNat, by omega, by omega, by omega⟩
            have HM := hidG hM
            clear hM
            obtain ⟨i0, hinf, hz0, hz1, hz2⟩ := info_byte
            go_wp2_with (at_make; refine wpList_make_full _ rfl _ _ 22 rfl w.heap.size 5 i0 (.int .u8 0) 1 Tryd.underlying22 hinf hz0 hz1 .i64 .i64 _ _ M rfl rfl ?m0 ?m1 ?m2 ?m3 ?m4 ?_)
            try (case m0 => exact HM.out)
            try (case m1 => exact HM.out)
            try (case m2 => (first | omega | (rw [hz2]; omega)))
            try (case m3 => (unfold maxLen; omega))
            try (case m4 => exact HBE.out.size)
            intro w4 hown hgr
            first | rw [bytes_made] at hown | rw [bytes_made'] at hown
            have HB4 : Hid (Below w.heap.size w w4) := HBE.out.grown hgr HBE.out.size (fun k h => by cases h)
            have HN4 : Hid (w4.ownsRow w.heap.size 31 4 (.slice p1 ns.length c1) ns.length (cellsN ns)) := own_other' HO.out (fun g hg => hgr.block g (HO.out.lt g hg).2 (by intro e; cases e))
            obtain ⟨G, hG⟩ : ∃ G, wr.heap.size = G := ⟨_, rfl⟩
            have hGb : w.heap.size ≤ G := by have := HBE.out.size; omega
            rw [hG] at hown ⊢
            have HT4 := hidG hown
            clear hgr hG hown
            clear HO HBE
            generalize wr = W5
            go_wp2_with fail
            go_loopw [47] (fun iv wr => ∃ (i : Nat) (L : List UInt8), i ≤ M ∧ iv = .int .i64 (i : Nat) ∧ L.length = M ∧ wr.ownsRow w.heap.size 5 1 (.slice (some ⟨G, 0, none⟩) M M) M (Lib.byteCells L) ∧ wr.ownsRow w.heap.size 31 4 (.slice p1 ns.length c1) ns.length (cellsN ns) ∧ Below w.heap.size w wr) (fun iv _ => M - (intOf iv).toNat)
            case atStart => exact ⟨0, _, Nat.zero_le _, rfl, by simp, HT4.out, HN4.out, HB4.out⟩
            case round =>
              obtain ⟨i, L, hi, rfl, hL, ht, hn5, hb5⟩ := hrel
              have HL := hidG hL
              have HN5 := hidG hn5
              have HB5 := hidG hb5
              clear hL hn5 hb5
              by_cases hlt : i < M
              · have hiL : i < L.length := by have := HL.out; omega
                have d0 := ht.cellAt i (by omega)
                rw [byte_at hiL] at d0
                have f0 := ht.frozenAt i
                have hst := ht.stored i (.int .u8 97)
                have HTS : Hid ((wr.setCell ⟨G, i, none⟩ (.int .u8 97)).ownsRow w.heap.size 5 1 (.slice (some ⟨G, 0, none⟩) M M) M (Lib.byteCells (L.set i 97))) := by
                  unfold Hid; rw [← bytes_set]; exact hst.1
                have HNS : Hid ((wr.setCell ⟨G, i, none⟩ (.int .u8 97)).ownsRow w.heap.size 31 4 (.slice p1 ns.length c1) ns.length (cellsN ns)) := own_apart' ht HN5.out (by decide) hst.2
                have HBS : Hid (Below w.heap.size w (wr.setCell ⟨G, i, none⟩ (.int .u8 97))) := HB5.out.setCell (p := ⟨G, i, none⟩) hGb _
                clear hst ht
                go_wp2_with fail
                go_roundw
                case rel => exact ⟨i + 1, _, by omega, by go_num, by rw [List.length_set]; exact HL.out, HTS.out, HNS.out, HBS.out⟩
                case measure => simp [intOf]; omega
              · have z : decide ((i : Int) < (M : Int)) = false := by rw [decide_eq_false_iff_not]; omega
                have hcv : (convert 22 9 (.slice (some ⟨G, 0, none⟩) M M)).run Tryd.prog wr = .ok (.string (strOf L)) wr := conv_L ht HL.out
                have HSZ : Hid ((strOf L).size = M) := by unfold Hid; rw [strOf_len]; exact HL.out
                clear ht
                generalize strOf L = U at hcv HSZ
                clear HL
                go_wp2_with (at_builtin; refine wpList_appN (n := ns.length) (base := w.heap.size) (xs := cellsN ns) (x := (⟨6, U, 0⟩, 0)) rfl _ _ rfl rfl ?own _ rfl ?hH ?hn ?hb ?_)
                case own => exact HN5.out
                case hH => rfl
                case hn => omega
                case hb => exact HB5.out.size
                intro g6 c6 w6 hown6 hgr6
                have hbe6 : Below w.heap.size wr w6 := ((Below.refl _ _).alloc HB5.out.size _).grown hgr6 (by have := HB5.out.size; simp; omega) (fun k e => (HN5.out.lt k e).1)
                have HB6 := hidG (HB5.out.trans hbe6)
                have HN6 : Hid (w6.ownsRow w.heap.size 31 4 (.slice (some ⟨g6, 0, none⟩) (ns.length + 1) c6) (ns ++ [((⟨6, U, 0⟩ : Nd), (0 : Int))]).length (cellsN (ns ++ [((⟨6, U, 0⟩ : Nd), (0 : Int))]))) := by
                  unfold Hid; rw [List.length_append, cellsN_snoc]; exact hown6
                have HSM6 : Hid (SmO (ns ++ [((⟨6, U, 0⟩ : Nd), (0 : Int))])) := HSM.out.snoc ⟨by have := HSZ.out; show U.size ≤ 10000; omega, by show (-2 : Int) ≤ 0; omega, by show (0 : Int) ≤ 11; omega⟩
                clear hbe6 hown6 hgr6
                go_wp2_with fail
                go_roundw
                case rel => exact ⟨_, _, rfl, by have := HM.out; omega, by have := HM.out; rw [List.length_append]; simp; omega, HSM6.out, HN6.out, HB6.out⟩
                case measure => have := HM.out; simp [intOf]; omega
          · skip
            obtain ⟨M, hM, hM0, hM1⟩ : ∃ M : Nat, (x : Int) = M ∧ 0 < M ∧ M ≤ 9000 := ⟨(x : Int).toNat, by omega, by omega, by omega⟩
            have HM := hidG hM
            clear hM
            obtain ⟨i0, hinf, hz0, hz1, hz2⟩ := info_byte
            go_wp2_with (at_make; refine wpList_make_full _ rfl _ _ 22 rfl w.heap.size 5 i0 (.int .u8 0) 1 Tryd.underlying22 hinf hz0 hz1 .i64 .i64 _ _ M rfl rfl ?m0 ?m1 ?m2 ?m3 ?m4 ?_)
            try (case m0 => exact HM.out)
            try (case m1 => exact HM.out)
            try (case m2 => (first | omega | (rw [hz2]; omega)))
            try (case m3 => (unfold maxLen; omega))
            try (case m4 => exact HBE.out.size)
            intro w4 hown hgr
            first | rw [bytes_made] at hown | rw [bytes_made'] at hown
            have HB4 : Hid (Below w.heap.size w w4) := HBE.out.grown hgr HBE.out.size (fun k h => by cases h)
            have HN4 : Hid (w4.ownsRow w.heap.size 31 4 (.slice p1 ns.length c1) ns.length (cellsN ns)) := own_other' HO.out (fun g hg => hgr.block g (HO.out.lt g hg).2 (by intro e; cases e))
            obtain ⟨G, hG⟩ : ∃ G, wr.heap.size = G := ⟨_, rfl⟩
            have hGb : w.heap.size ≤ G := by have := HBE.out.size; omega
            rw [hG] at hown ⊢
            have HT4 := hidG hown
            clear hgr hG hown
            clear HO HBE
            generalize wr = W5
            go_wp2_with fail
            go_loopw [47] (fun iv wr => ∃ (i : Nat) (L : List UInt8), i ≤ M ∧ iv = .int .i64 (i : Nat) ∧ L.length = M ∧ wr.ownsRow w.heap.size 5 1 (.slice (some ⟨G, 0, none⟩) M M) M (Lib.byteCells L) ∧ wr.ownsRow w.heap.size 31 4 (.slice p1 ns.length c1) ns.length (cellsN ns) ∧ Below w.heap.size w wr) (fun iv _ => M - (intOf iv).toNat)
            case atStart => exact ⟨0, _, Nat.zero_le _, rfl, by simp, HT4.out, HN4.out, HB4.out⟩
            case round =>
              obtain ⟨i, L, hi, rfl, hL, ht, hn5, hb5⟩ := hrel
              have HL := hidG hL
              have HN5 := hidG hn5
              have HB5 := hidG hb5
              clear hL hn5 hb5
              by_cases hlt : i < M
              · have hiL : i < L.length := by have := HL.out; omega
                have d0 := ht.cellAt i (by omega)
                rw [byte_at hiL] at d0
                have f0 := ht.frozenAt i
                have hst := ht.stored i (.int .u8 97)
                have HTS : Hid ((wr.setCell ⟨G, i, none⟩ (.int .u8 97)).ownsRow w.heap.size 5 1 (.slice (some ⟨G, 0, none⟩) M M) M (Lib.byteCells (L.set i 97))) := by
                  unfold Hid; rw [← bytes_set]; exact hst.1
                have HNS : Hid ((wr.setCell ⟨G, i, none⟩ (.int .u8 97)).ownsRow w.heap.size 31 4 (.slice p1 ns.length c1) ns.length (cellsN ns)) := own_apart' ht HN5.out (by decide) hst.2
                have HBS : Hid (Below w.heap.size w (wr.setCell ⟨G, i, none⟩ (.int .u8 97))) := HB5.out.setCell (p := ⟨G, i, none⟩) hGb _
                clear hst ht
                go_wp2_with fail
                go_roundw
                case rel => exact ⟨i + 1, _, by omega, by go_num, by rw [List.length_set]; exact HL.out, HTS.out, HNS.out, HBS.out⟩
                case measure => simp [intOf]; omega
              · have z : decide ((i : Int) < (M : Int)) = false := by rw [decide_eq_false_iff_not]; omega
                have hcv : (convert 22 9 (.slice (some ⟨G, 0, none⟩) M M)).run Tryd.prog wr = .ok (.string (strOf L)) wr := conv_L ht HL.out
                have HSZ : Hid ((strOf L).size = M) := by unfold Hid; rw [strOf_len]; exact HL.out
                clear ht
                generalize strOf L = U at hcv HSZ
                clear HL
                go_wp2_with (at_builtin; refine wpList_appN (n := ns.length) (base := w.heap.size) (xs := cellsN ns) (x := (⟨6, U, 0⟩, 0)) rfl _ _ rfl rfl ?own _ rfl ?hH ?hn ?hb ?_)
                case own => exact HN5.out
                case hH => rfl
                case hn => omega
                case hb => exact HB5.out.size
                intro g6 c6 w6 hown6 hgr6
                have hbe6 : Below w.heap.size wr w6 := ((Below.refl _ _).alloc HB5.out.size _).grown hgr6 (by have := HB5.out.size; simp; omega) (fun k e => (HN5.out.lt k e).1)
                have HB6 := hidG (HB5.out.trans hbe6)
                have HN6 : Hid (w6.ownsRow w.heap.size 31 4 (.slice (some ⟨g6, 0, none⟩) (ns.length + 1) c6) (ns ++ [((⟨6, U, 0⟩ : Nd), (0 : Int))]).length (cellsN (ns ++ [((⟨6, U, 0⟩ : Nd), (0 : Int))]))) := by
                  unfold Hid; rw [List.length_append, cellsN_snoc]; exact hown6
                have HSM6 : Hid (SmO (ns ++ [((⟨6, U, 0⟩ : Nd), (0 : Int))])) := HSM.out.snoc ⟨by have := HSZ.out; show U.size ≤ 10000; omega, by show (-2 : Int) ≤ 0; omega, by show (0 : Int) ≤ 11; omega⟩
                clear hbe6 hown6 hgr6
                go_wp2_with fail
                go_roundw
                case rel => exact ⟨_, _, rfl, by have := HM.out; omega, by have := HM.out; rw [List.length_append]; simp; omega, HSM6.out, HN6.out, HB6.out⟩
                case measure => have := HM.out; simp [intOf]; omega
        · go_wp2_with fail
          go_ret
          first | exact ⟨_, ns, rfl, HO.out, HSM.out, hnl, HBE.out⟩ | exact ⟨_, rfl, ns, HO.out, HSM.out, hnl, HBE.out⟩
end Go.Proofs.YtdngpnlbhadbpaaDoor
namespace Go.Proofs.YtdngpnlbhadbpaaDoor
open Go.ChangeShapes Go.WideShapes Go.ChangeAt Go.RowKit
theorem nodes_of_row {W : World} {base : Nat} {v : Value} {ns : List (Nd × Int)} (h : W.ownsRow base 31 4 v ns.length (cellsN ns)) (hs : SmO ns) : IsNodes W v ns := by
  have h0 := h
  rcases h.2 with ⟨rfl, hn⟩ | ⟨g, cap, cur, rfl, _, hb, hn, hc, _⟩
  · exact ⟨none, 0, by rw [hn], by omega, Nat.zero_le _, .inl (List.eq_nil_of_length_eq_zero hn)⟩
  · refine ⟨_, cap, rfl, hn, hc, ?_⟩
    rcases Nat.eq_zero_or_pos ns.length with hz | hz
    · exact .inl (List.eq_nil_of_length_eq_zero hz)
    · refine .inr ⟨g, rfl, (Array.getElem?_eq_some_iff.1 hb).1, fun i hi => ?_⟩
      have hx := hs ns[i] (List.getElem_mem hi)
      exact ⟨row_at4 h0 hi, by omega, by omega⟩
theorem sm_of_map {ns ns' : List (Nd × Int)} (h : SmO ns) (he : ns'.map Prod.fst = ns.map Prod.fst) : SmO ns' := fun x hx => by
  have hm : x.1 ∈ ns.map Prod.fst := by rw [← he]; exact List.mem_map_of_mem hx
  obtain ⟨y, hy, hxy⟩ := List.mem_map.1 hm
  rw [← hxy]
  exact h y hy
theorem at_of_map {ns ns' : List (Nd × Int)} (he : ns'.map Prod.fst = ns.map Prod.fst) {i : Nat} (hi : i < ns.length) (hi' : i < ns'.length) : ns'[i].1 = ns[i].1 := by
  have h := congrArg (fun l => l[i]?) he
  simpa [hi, hi'] using h
theorem good_back {ns : List (Nd × Int)} (h : goodT ns = true) : ∃ T : ByteArray, writeT ns = T ∧ T.size ≤ 20000 ∧ ∃ ns', Run T.data.toList ⟨0, [], []⟩ (RR.ok ns') ∧ ns'.map Prod.fst = ns.map Prod.fst := by
  simp only [goodT, Bool.and_eq_true, decide_eq_true_eq] at h
  have hw : writeT ns = strOf (rowI (ns.map Prod.fst) []) := by unfold writeT; rw [if_pos h.1]
  have hz : (strOf (rowI (ns.map Prod.fst) [])).size ≤ 20000 := by rw [strOf_size]; exact h.2
  obtain ⟨ns', hr, he⟩ := reads_back h.1 (S := strOf (rowI (ns.map Prod.fst) [])) (strOf_toList _) hz
  rcases hr with ⟨hl, _⟩ | ⟨_, hr⟩
  · omega
  · exact ⟨_, hw, hz, ns', hr, he⟩
set_option maxRecDepth 100000 in
set_option maxHeartbeats 4000000 in
theorem drawGood_any (a : Option Addr) (n cap : Nat) (w : World) (h : CodeArg w a n cap) :
    Calls Tryd.prog 6 #[.slice a n cap] w fun e w' => ∃ (v : Value) (ns : List (Nd × Int)), e = .returned v ∧ w'.ownsRow w.heap.size 31 4 v ns.length (cellsN ns) ∧ SmO ns ∧ ns.length ≤ 8001 ∧ Below w.heap.size w w' := by
  have HA := hidG h
  clear h
  go_enter Tryd.func6, Tryd.ntmps6
  go_wp2_with fail
  refine (l3Nodes_any a n cap _ HA.out).mono ?_
  rintro e w1 ⟨v, ns, rfl, hf⟩
  have HF := hidG hf
  clear hf
  go_wp2_with fail
  go_ret
  exact ⟨v, ns, rfl, HF.out⟩
set_option maxRecDepth 100000 in
set_option maxHeartbeats 8000000 in
theorem fnTrees_any (a : Option Addr) (n cap : Nat) (mx : Int) (w : World) (h : CodeArg w a n cap) (hmx : w.cell? ⟨0, 0, none⟩ = some (.int .i64 mx)) (hg : 0 < w.heap.size) :
    Calls Tryd.prog 3 #[.slice a n cap] w fun e w' => e = .returned (.bool true) ∧ Below w.heap.size w w' := by
  have HA := hidG h
  have HMX := hidG hmx
  have hn := Nat.le_trans h.1 h.2.1
  unfold maxLen at hn
  clear h hmx
  by_cases c : 1048576 < n
  · go_enter Tryd.func3, Tryd.ntmps3
    go_wp2_with fail
    go_ret
    exact ⟨rfl, Below.refl _ _⟩
  go_enter Tryd.func3, Tryd.ntmps3
  go_wp2_with fail
  refine (drawGood_any a n cap _ HA.out).mono ?_
  rintro e w1 ⟨v, ns, rfl, ho, hsm, hln, hb1⟩
  have HB1 := hidG hb1
  have HO1 := hidG ho
  have HSM := hidG hsm
  have HN1 := hidG (nodes_of_row ho hsm)
  obtain ⟨pv, cv, rfl⟩ := own_shape ho
  clear ho hsm hb1
  go_wp2_with fail
  refine (specGood_any _ ns _ HN1.out).mono ?_
  rintro e w2 ⟨rfl, hb2⟩
  have HB2 := hidG (HB1.out.trans (hb2.mono HB1.out.size))
  have HN2 := hidG (HN1.out.below hb2)
  have HO2 := hidG (own_other' HO1.out (fun g hg => hb2.block g (HO1.out.lt g hg).2))
  have HM2 : Hid (w2.cell? ⟨0, 0, none⟩ = some (.int .i64 mx)) := (HB2.out.cell (p := ⟨0, 0, none⟩) hg).trans HMX.out
  have hg2 : 0 < w2.heap.size := Nat.lt_of_lt_of_le hg HB2.out.size
  clear hb2 HB1 HN1 HO1
  cases hgd : goodT ns
  · have HGD := hidG hgd
    clear hgd
    go_wp2_with fail
    refine (implGood_any _ ns mx _ HN2.out HM2.out hg2).mono ?_
    rw [HGD.out]
    rintro e w3 ⟨rfl, hb3⟩
    have HB3 := hidG (HB2.out.trans (hb3.mono HB2.out.size))
    clear hb3
    go_wp2_with fail
    go_ret
    exact ⟨rfl, HB3.out⟩
  · obtain ⟨T, hwT, hTs, ns', hrun, hmap⟩ := good_back hgd
    have HWT := hidG hwT
    have HRUN := hidG hrun
    have HMAP := hidG hmap
    have HTS := hidG hTs
    clear hgd hwT hrun hmap hTs
    go_wp2_with fail
    refine (implWrite_any _ ns mx _ HN2.out HM2.out hg2).mono ?_
    rw [HWT.out]
    rintro e w3 ⟨rfl, hb3⟩
    have HB3 := hidG (HB2.out.trans (hb3.mono HB2.out.size))
    have HN3 := hidG (HN2.out.below hb3)
    have HO3 := hidG (own_other' HO2.out (fun g hg => hb3.block g (HO2.out.lt g hg).2))
    have HM3 : Hid (w3.cell? ⟨0, 0, none⟩ = some (.int .i64 mx)) := (HB3.out.cell (p := ⟨0, 0, none⟩) hg).trans HMX.out
    clear hb3 HB2 HN2 HO2 HM2
    go_wp2_with fail
    refine (specWrite_any _ ns _ HN3.out).mono ?_
    rw [HWT.out]
    rintro e w4 ⟨rfl, hb4⟩
    have HB4 := hidG (HB3.out.trans (hb4.mono HB3.out.size))
    have HO4 := hidG (own_other' HO3.out (fun g hg => hb4.block g (HO3.out.lt g hg).2))
    clear hb4 HB3 HN3 HO3 HM3
    go_wp2_with fail
    refine (readTree_impl T (RR.ok ns') _ HTS.out HRUN.out).mono ?_
    rintro e w5 ⟨⟨v5, rfl, ho5⟩, hb5⟩
    have HB5 := hidG (HB4.out.trans (hb5.mono HB4.out.size))
    have HO5 := hidG (own_other' HO4.out (fun g hg => hb5.block g (HO4.out.lt g hg).2))
    have hls : ns'.length = ns.length := by have := congrArg List.length HMAP.out; simpa using this
    have HN5 := hidG (nodes_of_row ho5 (sm_of_map HSM.out HMAP.out))
    obtain ⟨pr, cr, rfl⟩ := own_shape ho5
    have HW5 : Hid (writeT ns' = T) := by unfold Hid; rw [← HWT.out]; unfold writeT; rw [HMAP.out]
    have HR5 : Hid (w5.ownsRow w4.heap.size 31 4 (.slice pr ns.length cr) ns.length (cellsN ns')) := by unfold Hid; have h := ho5; rw [hls] at h; exact h
    have HM5 : Hid (w5.cell? ⟨0, 0, none⟩ = some (.int .i64 mx)) := (HB5.out.cell (p := ⟨0, 0, none⟩) hg).trans HMX.out
    have hg5 : 0 < w5.heap.size := Nat.lt_of_lt_of_le hg HB5.out.size
    have HLS := hidG hls
    have hN5' : IsNodes w5 (.slice pr ns.length cr) ns' := by have h := HN5.out; rw [hls] at h; exact h
    have HNR := hidG hN5'
    rw [hls]
    clear ho5 hb5 hls hN5' HN5
    go_wp2_with fail
    obtain ⟨B, hB⟩ : ∃ B, w5.heap.size = B := ⟨_, rfl⟩
    obtain ⟨W6, hW6⟩ : ∃ W6, w5.alloc (.cells #[.int .i64 0, .int .i64 0, .slice pr ns.length cr] 28) = W6 := ⟨_, rfl⟩
    have HB56 : Hid (Below w5.heap.size w5 W6) := by unfold Hid; rw [← hW6]; exact below_alloc _ _
    have hS6 : W6.heap.size = B + 1 := by rw [← hW6, World.size_alloc, hB]
    have HX6 : Hid (Bx W6 B [.int .i64 0, .int .i64 0, .slice pr ns.length cr]) := by unfold Hid; rw [← hW6, ← hB]; exact bx_new w5 _ _
    have HBB : Hid (w5.heap.size = B) := hB
    have HSS := hidG hS6
    rw [hW6, hB]
    clear hW6 hB hS6
    go_loopw [40] (fun iv wr => ∃ i : Nat, i ≤ ns.length ∧ iv = .int .i64 (i : Nat) ∧ Below (B + 1) W6 wr) (fun iv _ => ns.length - (intOf iv).toNat)
    case atStart => exact ⟨0, Nat.zero_le _, rfl, Below.refl _ _⟩
    case round =>
      obtain ⟨i, hi, rfl, hbr⟩ := hrel
      have HBR := hidG hbr
      have hb5r : Below w5.heap.size w5 wr := HB56.out.trans (hbr.mono (by rw [HBB.out]; omega))
      have hxr : Bx wr B [.int .i64 0, .int .i64 0, .slice pr ns.length cr] := HX6.out.below (by omega) hbr
      have b0 := hxr.cell 0
      have b1 := hxr.cell 1
      have b2 := hxr.cell 2
      simp only [List.getElem?_cons_zero, List.getElem?_cons_succ] at b0 b1 b2
      have HB5R := hidG hb5r
      clear hbr hb5r hxr
      by_cases hlt : i < ns.length
      · have hown : wr.ownsRow w.heap.size 31 4 (.slice pv ns.length cv) ns.length (cellsN ns) := own_other' HO5.out (fun g hg => HB5R.out.block g (HO5.out.lt g hg).2)
        have howr : wr.ownsRow w4.heap.size 31 4 (.slice pr ns.length cr) ns.length (cellsN ns') := own_other' HR5.out (fun g hg => HB5R.out.block g (HR5.out.lt g hg).2)
        obtain ⟨g1, cc1, he1, hg1, hg1'⟩ := hown.form (by omega)
        cases he1
        obtain ⟨g2, cc2, he2, hg2', hg2''⟩ := howr.form (by omega)
        cases he2
        obtain ⟨d0, d1, d2, _⟩ := row_at4 hown hlt
        have hi' : i < ns'.length := by have := HLS.out; omega
        have howr' : wr.ownsRow w4.heap.size 31 4 (.slice (some ⟨g2, 0, none⟩) ns'.length cr) ns'.length (cellsN ns') := by have e := HLS.out; rw [e]; exact howr
        obtain ⟨e0, e1, e2, e3⟩ := row_at4 howr' hi'
        have hat := at_of_map HMAP.out hlt hi'
        rw [hat] at e0 e1 e2
        have hc1 := own_cap hown
        have hc2 := own_cap howr
        unfold maxLen at hc1 hc2
        generalize ns[i].1.kind = K at d0 e0
        generalize ns[i].1.text = U at d1 e1
        generalize ns[i].1.kids = D at d2 e2
        generalize ns'[i].2 = Q at e3
        clear hat howr' hown howr
        go_wp2_with fail
        have HBA : Hid (Below (B + 1) W6 (wr.alloc (.cells #[.int .i64 K, .string U, .int .i64 D, .int .i64 Q] 31))) := HBR.out.alloc (by have := HBR.out.size; have := HSS.out; omega) _
        have hxx := bx_new wr [.int .i64 K, .string U, .int .i64 D, .int .i64 Q] 31
        have x0 := hxx.cell 0
        have x1 := hxx.cell 1
        have x2 := hxx.cell 2
        simp only [List.getElem?_cons_zero, List.getElem?_cons_succ] at x0 x1 x2
        have hba := below_alloc wr (.cells #[.int .i64 K, .string U, .int .i64 D, .int .i64 Q] 31)
        have y0 := (hba.cell (p := ⟨g1, i * 4, none⟩) hg1').trans d0
        have y1 := (hba.cell (p := ⟨g1, i * 4 + 1, none⟩) hg1').trans d1
        have y2 := (hba.cell (p := ⟨g1, i * 4 + 2, none⟩) hg1').trans d2
        change (wr.alloc (.cells #[.int .i64 K, .string U, .int .i64 D, .int .i64 Q] 31)).cell? _ = _ at x0 x1 x2
        obtain ⟨W7, hW7⟩ : ∃ W7, wr.alloc (.cells #[.int .i64 K, .string U, .int .i64 D, .int .i64 Q] 31) = W7 := ⟨_, rfl⟩
        obtain ⟨X, hX⟩ : ∃ X, wr.heap.size = X := ⟨_, rfl⟩
        rw [hW7] at HBA x0 x1 x2 y0 y1 y2 ⊢
        rw [hX] at x0 x1 x2 ⊢
        clear hxx hba hW7 hX d0 d1 d2 e0 e1 e2 e3 b0 b1 b2 HBR HB5R hg1' hg2''
        go_region
        all_goals (go_wp2_with fail)
        all_goals go_roundw
        case rel => exact ⟨i + 1, by omega, by go_num, ⟨HBA.out.os, HBA.out.tape, HBA.out.output, HBA.out.size, HBA.out.block⟩⟩
        case measure => simp [intOf]; omega
      · have z : decide ((i : Int) < (ns.length : Int)) = false := by rw [decide_eq_false_iff_not]; omega
        have HNW : Hid (IsNodes wr (.slice pr ns.length cr) ns') := HNR.out.below HB5R.out
        have HMW : Hid (wr.cell? ⟨0, 0, none⟩ = some (.int .i64 mx)) := (HB5R.out.cell (p := ⟨0, 0, none⟩) hg5).trans HM5.out
        have hgw : 0 < wr.heap.size := Nat.lt_of_lt_of_le hg5 HB5R.out.size
        have HBW : Hid (Below w.heap.size w wr) := HB5.out.trans (HB5R.out.mono HB5.out.size)
        go_wp2_with fail
        refine (implWrite_any _ ns' mx _ HNW.out HMW.out hgw).mono ?_
        rw [HW5.out]
        rintro e w8 ⟨rfl, hb8⟩
        have HB8 := hidG (HBW.out.trans (hb8.mono HBW.out.size))
        clear hb8
        go_wp2_with fail
        go_ret
        exact ⟨rfl, HB8.out⟩
end Go.Proofs.YtdngpnlbhadbpaaDoor
namespace Go.Proofs.YtdngpnlbhadbpaaDoor.fnTrees
open Go.ChangeShapes Go.WideShapes Go.ChangeAt Go.RowKit
set_option linter.unusedVariables false
theorem handed_laid_shaped {H : Type} {enc : TypeId × Value → H} {a : Assume} {C : Checked} {os : Os} {f : FuncId} {fn : Func} {s : ChangeSpec} {conds : List PathCond} {apart fresh handsOn again : Bool} {X : World → Array Value → Prop}
    (hX : ∀ (w w' : World) (args : Array Value), w.heap = w'.heap → X w args → X w' args)
    (own : ownKnob C.prog.godebug = none) (started : os.Started) (noInit : C.prog.inits.idxOf? f = none) (hfn : C.prog.funcs[f]? = some fn)
    (witness : ∃ (w : World) (tape : Tape) (i : Input), w.os = os ∧ (w.forCall tape i).Shaped C.prog ∧ i.vars = [] ∧ Input.okWide C.prog (w.forCall tape i) .any w.heap.size f i ∧
      ((s.pre enc C.prog fn conds apart (w.forCall tape i).memory i.args ∧ X (w.forCall tape i).memory i.args) ∧ sizedMet enc C.prog fn (OpenSpec.ofChange s) apart (w.forCall tape i).memory i.args) ∧ a.holds C.prog (lone (Frame.enter C.prog f i.args .normal) [] (w.forCall tape i)))
    (contract : ∀ (W : World) (base : Nat) (args : Array Value) (ds gs : List (DataW H)) (before : List MemPlace),
      (∀ (j : Nat) t v, fn.params[j]? = some t → args[j]? = some v → Value.okWide C.prog W .any base t v) →
      DataW.Whole enc C.prog fn.params.toList s.vars apart W args.toList ds gs before →
      conds.all (PathCond.test C.prog ⟨fn.params.toList, ds, s.plain.varTypes C.prog, gs⟩) = true →
      (DataW.weightsEach C.prog (fn.params.toList ++ s.plain.varTypes C.prog) (ds ++ gs)).all (· ≤ reachBytes) = true → X W args → W.ShapedOpen C.prog →
      a.holds C.prog (lone (Frame.enter C.prog f args .normal) [] W) →
      Calls C.prog f args W fun e W' => ∃ v, e = .returned v ∧ s.post enc C.prog fn apart fresh handsOn again W args v W') :
    ReturnsInHanded a C os f .any (fun w args => (s.pre enc C.prog fn conds apart w args ∧ X w args) ∧ sizedMet enc C.prog fn (OpenSpec.ofChange s) apart w args) (s.post enc C.prog fn apart fresh handsOn again) := by
  refine returnsInHanded_of_calls own started noInit witness ?_
  intro w tape i _ hsh _ hok hpre hholds
  obtain ⟨_, _, _, fn', hfn', _, _, _, _, hval⟩ := hok
  obtain rfl : fn' = fn := Option.some.inj (hfn'.symm.trans hfn)
  obtain ⟨⟨⟨ds, gs, before, hw, hc⟩, hx⟩, hz⟩ := hpre
  refine (contract (w.forCall tape i) w.heap.size i.args ds gs before hval (DataW.Whole.of_heap (w' := w.forCall tape i) (by rfl) hw) hc (hz.weights hw) (hX _ _ _ (by rfl) hx) hsh hholds).mono fun e W' h => ?_
  obtain ⟨v, rfl, hp⟩ := h
  exact ChangeSpec.post_blind hp
/-- That variable holds some number. -/
theorem maxLen_int {w : World} (h : w.ShapedOpen Tryd.prog) : ∃ m, w.cell? ⟨0, 0, none⟩ = some (.int .i64 m) :=
  cell_of_shapedOpen_int (t := 3) (zero := #[.int .i64 0]) h (by decide +kernel) (by kernel_rfl) rfl (by kernel_rfl) (by kernel_rfl) Tryd.underlying3
theorem own : ownKnob Tryd.prog.godebug = none := by kernel_rfl
theorem laidOut : laidOutB Tryd.prog = true := by kernel_rfl
set_option maxRecDepth 100000 in
theorem lifted (os : Os) (started : os.Started) (H : Type) (enc : TypeId × Value → H) :
    ReturnsInHanded {} Tryd.checked os 3 .any (fun w args => (Rows.fnTreesSpec.pre enc Tryd.prog Tryd.f3 [] false w args ∧ laidMetH Tryd.prog Rows.fnTreesRow.laid w) ∧ sizedMet enc Tryd.prog Tryd.f3 (OpenSpec.ofChange Rows.fnTreesSpec) false w args)
      (Rows.fnTreesSpec.post enc Tryd.prog Tryd.f3 false true false false) := by
  refine handed_laid_shaped (C := Tryd.checked) (X := fun w _ => laidMetH Tryd.prog Rows.fnTreesRow.laid w) (fun _ _ _ hh h => h.of_heap hh) own started (by kernel_rfl) Tryd.func3
    (ChangeSpec.witness_shaped (enc := enc) (C := Tryd.checked) (os := os) (X := fun w _ => laidMetH Tryd.prog Rows.fnTreesRow.laid w) false (World.laidAll Tryd.prog os Rows.fnTreesRow.laid) #[.slice none 0 0] 8 (World.laidAll_os _ _ _)
      (World.shaped_of_ZipB (by kernel_rfl) (by kernel_rfl)) (by kernel_rfl) (by kernel_rfl) (by kernel_rfl)
      (by rw [MakeChecks.laidMetH_plain _ _ _ (by kernel_rfl)]; exact laidMet_laidAll _ (by kernel_rfl) (by kernel_rfl))) ?_
  intro W base args ds gs before hval0 hW _ _ _ hsh _
  have hval : ∀ (j : Nat) t v, Tryd.f3.params[j]? = some t → args[j]? = some v → Value.okWide Tryd.prog W .any base t v := hval0
  have hW' := hW
  obtain ⟨p, q, hA0, hV, rfl, hfz, hnd⟩ := hW
  have hA : DataW.TrodAll enc Tryd.prog W 0 (fun _ => true) true Tryd.f3.params.toList args.toList ds p := hA0
  rw [Tryd.params3] at hA hval
  obtain ⟨v0, vs0, d0, ds0, p0, q0, hargs, rfl, rfl, h0, r0⟩ := trodAll_cons hA
  obtain ⟨rfl, rfl, rfl⟩ := trodAll_nil r0
  obtain rfl : args = #[v0] := by cases args; simp_all
  obtain ⟨rfl, rfl⟩ := trodVars_none hV
  obtain ⟨a0, len0, cap0, rfl⟩ := okWide_slice Tryd.underlying22 (hval 0 22 v0 rfl rfl)
  have k0 := h0
  have lt0 : ∀ x ∈ p0, x.block < W.heap.size := by obtain ⟨m, hm⟩ := k0; exact DataW.trod_lt m _ _ _ hm
  have w0 : CodeArg W a0 len0 cap0 := by
    obtain ⟨fuel, hf⟩ := h0
    rcases open_ints Tryd.underlying22 Tryd.underlying5 (by kernel_rfl) hf with ⟨hcs, _⟩ | ⟨x, l, c, zs, hcs, _, hl, hm, hz, _, hcell, hwz⟩
    · simp [Value.cells] at hcs
      obtain ⟨rfl, rfl, rfl⟩ := hcs
      exact ⟨Nat.le_refl _, Nat.zero_le _, fun i hi => absurd hi (Nat.not_lt_zero _)⟩
    · simp [Value.cells] at hcs
      obtain ⟨rfl, rfl, rfl⟩ := hcs
      have hzl : zs.length = cap0 := by simpa using hz
      refine ⟨hl, hm, fun i hi => ?_⟩
      obtain ⟨b, off, rfl, hc⟩ := _root_.Go.ints_at hcell (by omega)
      have hci := hc i (by omega)
      have hmem : zs.getD i 0 ∈ zs := by
        rw [List.getD_eq_getElem?_getD, List.getElem?_eq_getElem (by omega)]
        exact List.getElem_mem _
      have hbd := bounds_u8 (hwz _ hmem)
      refine ⟨b, off, (zs.getD i 0).toNat, rfl, World.block_lt_of_cell? W ⟨b, off + i, none⟩ hci, by omega, ?_⟩
      rw [hci]
      have : ((zs.getD i 0).toNat : Int) = zs.getD i 0 := Int.toNat_of_nonneg hbd.1
      rw [this]
  obtain ⟨mx, hmx⟩ := maxLen_int hsh
  have hgm := World.block_lt_of_cell? W _ hmx
  clear hA0 hval0
  refine (fnTrees_any a0 len0 cap0 mx W w0 hmx hgm).mono fun e W' ⟨he, bel⟩ => ?_
  subst he
  exact ⟨_, rfl, _, _, _, [], _, _, hW', trodAll_mk1 (shut_bool Tryd.underlying4 _), (trodAll_cons_mk (Below.trod laidOut (by kernel_rfl) (of_decide_eq_true (by kernel_rfl)) k0 bel lt0) trodAll_mk0), rfl, bel.frame _, fun h => by cases h⟩

theorem over : Rows.fnTreesRow.holds Tryd.pinned (OpenSpec.ofChange Rows.fnTreesSpec) :=
  OpenClaim.holds_of_wide 3 Tryd.f3 rfl rfl rfl rfl rfl rfl rfl ⟨rfl, rfl, rfl, rfl, rfl⟩ rfl rfl rfl rfl rfl (by kernel_rfl) Tryd.func3 (by kernel_rfl)
    (of_decide_eq_true (by kernel_rfl)) (by unfold Func.isWrapper; first | (rw [if_pos (by decide +kernel)]; kernel_rfl) | (rw [if_neg (by decide +kernel)]; exact ⟨rfl, rfl⟩))
    (fun os started H enc _ => lifted os started H enc)
theorem plain (f : FuncId) (fn : Func) (hf : Tryd.pinned.checked.prog.funcNamed "loop.example/g00007/laws.FnTrees" = some f) (hfn : Tryd.pinned.checked.prog.funcs[f]? = some fn) :
    false = Tryd.pinned.checked.prog.looks [] ∧ ∀ (j : Nat) t, fn.params[j]? = some t → Tryd.pinned.checked.prog.wantsStandIn t = false := by
  obtain rfl : f = 3 := Option.some.inj ((show Tryd.prog.funcNamed "loop.example/g00007/laws.FnTrees" = some 3 by kernel_rfl).symm.trans hf) |>.symm
  obtain rfl : fn = Tryd.f3 := (Option.some.inj (Tryd.func3.symm.trans hfn)).symm
  refine ⟨by kernel_rfl, fun j t ht => ?_⟩
  rw [Tryd.params3] at ht
  obtain rfl : t = 22 := by simpa using Array.mem_of_getElem? ht
  exact (show Tryd.prog.wantsStandIn 22 = false by kernel_rfl)
end Go.Proofs.YtdngpnlbhadbpaaDoor.fnTrees
namespace Go.Proofs.YtdngpnlbhadbpaaDoor
theorem fnTrees_holds : Rows.FnTreesCardSaid :=
  Claim7.holds_tied_plain_at .later [] _ _ _ _ fnTrees.over (fun _ h => by cases h) (by kernel_rfl) (fun _ h => by cases h) fnTrees_row_tie rfl ⟨rfl, rfl⟩ (by kernel_rfl) rfl fnTrees.plain (by kernel_rfl)
#print axioms fnTrees_holds
end Go.Proofs.YtdngpnlbhadbpaaDoor
