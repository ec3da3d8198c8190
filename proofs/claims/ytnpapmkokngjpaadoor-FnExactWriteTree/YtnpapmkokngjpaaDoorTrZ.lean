import Derived.Test.YtnpapmkokngjpaaDoorTrG
import Derived.Deep.RegionHeld3
namespace Go.Proofs.YtnpapmkokngjpaaDoor
open Go.ChangeShapes Go.WideShapes Go.ChangeAt Go.RowKit
theorem Tryd.info_node : (Tryd.prog.info? 31).map (fun i => (i.zero, i.size, i.bytes)) = some (some (.agg #[.int .i64 0, .string ⟨#[]⟩, .int .i64 0, .int .i64 0]), 4, 40) := by kernel_rfl
theorem own_at {w : World} {base g n cap : Nat} {e : TypeId} {xs : List Value} (h : w.ownsRow base e 4 (.slice (some ⟨g, 0, none⟩) n cap) n xs) (j : Nat) (hj : j < n * 4) : ∃ x, w.cell? ⟨g, j, none⟩ = some x := by
  rw [h.cellAt j hj]
  exact ⟨_, List.getElem?_eq_getElem (by have := h.1; omega)⟩
theorem own4_below {w w' : World} {base : Nat} {e : TypeId} {v : Value} {n : Nat} {xs : List Value} (h : w.ownsRow base e 4 v n xs) (hb : Below w.heap.size w w') : w'.ownsRow base e 4 v n xs :=
  h.kept (row := none) ⟨hb.os, hb.tape, hb.output, hb.size, fun k hk _ => hb.block k hk⟩ (by cases v.ownBlock <;> simp)
/-- Nodes in memory, from a place on. -/
def ArgAt (w : World) (b off : Nat) (ns : List (Nd × Int)) : Prop :=
  ∀ i (h : i < ns.length), w.cell? ⟨b, off + i * 4, none⟩ = some (.int .i64 ns[i].1.kind) ∧ w.cell? ⟨b, off + i * 4 + 1, none⟩ = some (.string ns[i].1.text) ∧ w.cell? ⟨b, off + i * 4 + 2, none⟩ = some (.int .i64 ns[i].1.kids) ∧ w.cell? ⟨b, off + i * 4 + 3, none⟩ = some (.int .i64 ns[i].2)
def SmallN (ns : List (Nd × Int)) : Prop := ns.length ≤ 1048576 ∧ ∀ i (h : i < ns.length), ns[i].1.text.size ≤ 1048576
/-- A row's cells, as far as they are laid. -/
def LaidTo (xs : List Value) (ns : List (Nd × Int)) (i : Nat) : Prop :=
  ∀ j (h : j < ns.length), j < i → xs[j * 4]? = some (.int .i64 ns[j].1.kind) ∧ xs[j * 4 + 1]? = some (.string ns[j].1.text) ∧ xs[j * 4 + 2]? = some (.int .i64 ns[j].1.kids) ∧ xs[j * 4 + 3]? = some (.int .i64 ns[j].2)
theorem LaidTo.next {xs : List Value} {ns : List (Nd × Int)} {i : Nat} (hx : xs.length = ns.length * 4) (h : LaidTo xs ns i) (hi : i < ns.length) :
    LaidTo ((((xs.set (i * 4) (.int .i64 ns[i].1.kind)).set (i * 4 + 1) (.string ns[i].1.text)).set (i * 4 + 2) (.int .i64 ns[i].1.kids)).set (i * 4 + 3) (.int .i64 ns[i].2)) ns (i + 1) := by
  intro j hj hji
  by_cases e : j = i
  · subst e
    refine ⟨?_, ?_, ?_, ?_⟩
    · rw [List.getElem?_set_ne (by omega), List.getElem?_set_ne (by omega), List.getElem?_set_ne (by omega), List.getElem?_set_self (by omega)]
    · rw [List.getElem?_set_ne (by omega), List.getElem?_set_ne (by omega), List.getElem?_set_self (by simp; omega)]
    · rw [List.getElem?_set_ne (by omega), List.getElem?_set_self (by simp; omega)]
    · rw [List.getElem?_set_self (by simp; omega)]
  · obtain ⟨h0, h1, h2, h3⟩ := h j hj (by omega)
    refine ⟨?_, ?_, ?_, ?_⟩ <;> rw [List.getElem?_set_ne (by omega), List.getElem?_set_ne (by omega), List.getElem?_set_ne (by omega), List.getElem?_set_ne (by omega)] <;> assumption
set_option maxRecDepth 100000 in
set_option maxHeartbeats 4000000 in
theorem toNode_any (k q kd : Int) (s : ByteArray) (w : World) :
    Calls Tryd.prog 27 #[.agg #[.int .i64 k, .string s, .int .i64 kd, .int .i64 q]] w fun e w' => e = .returned (.agg #[.int .i64 k, .string s, .int .i64 kd, .int .i64 q]) ∧ Below w.heap.size w w' := by
  go_enter Tryd.func27, Tryd.ntmps27
  go_wp2_with fail
  refine bodyPost_ret (v := .agg #[.int .i64 k, .string s, .int .i64 kd, .int .i64 q]) ?_ rfl ⟨rfl, ((below_alloc w _).alloc (by simp) _).alloc (by simp; omega) _⟩
  simp [results, Tryd.results27, go_sem]
set_option maxRecDepth 100000 in
set_option maxHeartbeats 4000000 in
theorem toNodeS_none (a : Option Addr) (c : Nat) (w : World) :
    Calls Tryd.prog 13 #[.slice a 0 c] w fun e w' => ∃ v, e = .returned v ∧ IsNodes w' v [] ∧ Below w.heap.size w w' := by
  obtain ⟨i0, hinf, hz0, hz1, hz2⟩ := info_parts Tryd.info_node
  go_enter Tryd.func13, Tryd.ntmps13
  go_wp2_with (at_make; refine wpList_make_full _ rfl _ _ 23 rfl w.heap.size 31 i0 (.agg #[.int .i64 0, .string ⟨#[]⟩, .int .i64 0, .int .i64 0]) 4 Tryd.underlying23 hinf hz0 hz1 .i64 .i64 _ _ 0 rfl rfl (by simp) (by simp) (by rw [hz2]; omega) (by unfold maxLen; omega) (Nat.le_refl _) ?_)
  intro w1 hown hgr
  have HB : Hid (Below w.heap.size w w1) := (Below.refl _ _).grown hgr (Nat.le_refl _) (fun k e => by cases e)
  clear hown hgr
  go_wp2_with fail
  go_loop [4] (fun i => i = .int .i64 0) (fun _ => 0)
  case atStart => rfl
  case round =>
    subst hrel
    go_wp2_with fail
    go_ret
    exact ⟨_, rfl, ⟨_, _, rfl, Nat.le_refl _, by unfold maxLen; omega, .inl rfl⟩, HB.out⟩
set_option maxRecDepth 100000 in
set_option maxHeartbeats 4000000 in
theorem toNodeS_some (b off c : Nat) (ns : List (Nd × Int)) (w : World) (hn : SmallN ns) (_hc : ns.length ≤ c) (_hc2 : c ≤ maxLen) (hb : b < w.heap.size) (hA : ArgAt w b off ns) (hkd : ∀ i (h : i < ns.length), ns[i].1.kids ≤ 9223372036854775807) :
    Calls Tryd.prog 13 #[.slice (some ⟨b, off, none⟩) ns.length c] w fun e w' => ∃ v, e = .returned v ∧ IsNodes w' v ns ∧ Below w.heap.size w w' := by
  unfold maxLen at _hc2
  obtain ⟨i0, hinf, hz0, hz1, hz2⟩ := info_parts Tryd.info_node
  have hnl := hn.1
  have HS := hidG hn
  have HA := hidG hA
  have HKD := hidG hkd
  clear hn hA hkd
  go_enter Tryd.func13, Tryd.ntmps13
  go_wp2_with (at_make; refine wpList_make_full _ rfl _ _ 23 rfl w.heap.size 31 i0 (.agg #[.int .i64 0, .string ⟨#[]⟩, .int .i64 0, .int .i64 0]) 4 Tryd.underlying23 hinf hz0 hz1 .i64 .i64 _ _ ns.length rfl rfl (by simp) (by simp) (by rw [hz2]; omega) (by unfold maxLen; omega) (Nat.le_refl _) ?_)
  intro w1 hown1 hgr
  have HB1 : Hid (Below w.heap.size w w1) := (Below.refl _ _).grown hgr (Nat.le_refl _) (fun k e => by cases e)
  have HO1 := hidG hown1
  clear hown1 hgr
  go_wp2_with fail
  go_loopw [4] (fun iv wr => ∃ (i : Nat) (xs : List Value), i ≤ ns.length ∧ iv = .int .i64 i ∧ LaidTo xs ns i ∧ wr.ownsRow w.heap.size 31 4 (.slice (some ⟨w.heap.size, 0, none⟩) ns.length ns.length) ns.length xs ∧ Below w.heap.size w wr) (fun iv _ => ns.length - (intOf iv).toNat)
  case atStart => exact ⟨0, _, Nat.zero_le _, rfl, fun j _ h => absurd h (Nat.not_lt_zero _), HO1.out, HB1.out⟩
  case round =>
    obtain ⟨i, xs, hi, rfl, hlaid, hown, hB⟩ := hrel
    have HB := hidG hB
    have HLD := hidG hlaid
    have HXL : Hid (xs.length = ns.length * 4) := hown.1
    by_cases hlt : i < ns.length
    · obtain ⟨k0, k1, k2, k3⟩ := HA.out i hlt
      rw [← hB.cell (p := ⟨b, off + i * 4, none⟩) hb] at k0
      rw [← hB.cell (p := ⟨b, off + i * 4 + 1, none⟩) hb] at k1
      rw [← hB.cell (p := ⟨b, off + i * 4 + 2, none⟩) hb] at k2
      rw [← hB.cell (p := ⟨b, off + i * 4 + 3, none⟩) hb] at k3
      have HNX := hidG (hlaid.next HXL.out hlt)
      obtain ⟨q, hq⟩ : ∃ q, ns[i].2 = q := ⟨_, rfl⟩
      obtain ⟨nd, hnd⟩ : ∃ nd, ns[i].1 = nd := ⟨_, rfl⟩
      rw [hnd] at k0 k1 k2 HNX
      rw [hq] at k3 HNX
      have HO := hidG hown
      clear hq hnd hlaid hown hB
      go_wp2_with (go_at_call 27; refine (toNode_any nd.kind q nd.kids nd.text _).mono ?_; rintro e w2 ⟨rfl, hb2⟩; have hown2 := own4_below HO.out hb2; have HB2 : Hid (Below w.heap.size w w2) := HB.out.trans (hb2.mono HB.out.size); obtain ⟨x0, e0⟩ := own_at hown2 (i * 4) (by omega); obtain ⟨x1, e1⟩ := own_at hown2 (i * 4 + 1) (by omega); obtain ⟨x2, e2⟩ := own_at hown2 (i * 4 + 2) (by omega); obtain ⟨x3, e3⟩ := own_at hown2 (i * 4 + 3) (by omega); have g0 := hown2.frozenAt (i * 4); have g1 := hown2.frozenAt (i * 4 + 1); have g2 := hown2.frozenAt (i * 4 + 2); have g3 := hown2.frozenAt (i * 4 + 3); have HO2 := hidG hown2; clear hb2 hown2)
      have hw4 := ((((HO2.out.stored (i * 4) (.int .i64 nd.kind)).1.stored (i * 4 + 1) (.string nd.text)).1.stored (i * 4 + 2) (.int .i64 nd.kids)).1.stored (i * 4 + 3) (.int .i64 q)).1
      have HW4 := hidG hw4
      clear hw4
      go_roundw
      case rel => exact ⟨i + 1, _, by omega, by go_num, HNX.out, HW4.out, (((HB2.out.setCell (p := ⟨w.heap.size, i * 4, none⟩) (Nat.le_refl _) _).setCell (p := ⟨w.heap.size, i * 4 + 1, none⟩) (Nat.le_refl _) _).setCell (p := ⟨w.heap.size, i * 4 + 2, none⟩) (Nat.le_refl _) _).setCell (p := ⟨w.heap.size, i * 4 + 3, none⟩) (Nat.le_refl _) _⟩
      case measure => simp [intOf]; omega
    · have hie : i = ns.length := by omega
      subst hie
      have HO := hidG hown
      clear hown hB hlaid
      go_wp2_with fail
      go_ret
      refine ⟨_, rfl, ⟨_, _, rfl, Nat.le_refl _, by unfold maxLen; omega, .inr ⟨w.heap.size, rfl, (HO.out.lt _ rfl).2, fun j hj => ?_⟩⟩, HB.out⟩
      obtain ⟨h0, h1, h2, h3⟩ := HLD.out j hj hj
      refine ⟨⟨?_, ?_, ?_, ?_⟩, HS.out.2 j hj, HKD.out j hj⟩
      · rw [HO.out.cellAt (j * 4) (by omega)]; exact h0
      · rw [HO.out.cellAt (j * 4 + 1) (by omega)]; exact h1
      · rw [HO.out.cellAt (j * 4 + 2) (by omega)]; exact h2
      · rw [HO.out.cellAt (j * 4 + 3) (by omega)]; exact h3
set_option maxRecDepth 100000 in
set_option maxHeartbeats 4000000 in
theorem szNode_any (k q kd : Int) (s : ByteArray) (z : Nat) (w : World) (hs : s.size ≤ maxLen) (hz : z ≤ 1048576) :
    Calls Tryd.prog 26 #[.agg #[.int .i64 k, .string s, .int .i64 kd, .int .i64 q], .int .i64 (z : Nat)] w fun e w' => e = .returned (.int .i64 (if z < s.size then -1 else (z : Int) - s.size)) ∧ Below w.heap.size w w' := by
  unfold maxLen at hs
  by_cases h : z < s.size
  · rw [if_pos h]
    have y : decide ((z : Int) - (s.size : Int) < 0) = true := by rw [decide_eq_true_iff]; omega
    go_enter Tryd.func26, Tryd.ntmps26
    go_wp2_with fail
    go_ret
    exact ⟨rfl, below_alloc _ _⟩
  · rw [if_neg h]
    have y : decide ((z : Int) - (s.size : Int) < 0) = false := by rw [decide_eq_false_iff_not]; omega
    go_enter Tryd.func26, Tryd.ntmps26
    go_wp2_with fail
    go_ret
    exact ⟨rfl, below_alloc _ _⟩
set_option maxRecDepth 100000 in
set_option maxHeartbeats 4000000 in
theorem szNodeS_any (a : Option Addr) (c : Nat) (ns : List (Nd × Int)) (w : World) (hc : ns.length ≤ c) (hc2 : c ≤ maxLen) (hA : ns = [] ∨ ∃ b off, a = some ⟨b, off, none⟩ ∧ b < w.heap.size ∧ ArgAt w b off ns) (hts : ∀ i (h : i < ns.length), ns[i].1.text.size ≤ maxLen) :
    Calls Tryd.prog 12 #[.slice a ns.length c, .int .i64 1048576] w fun e w' => (∃ z : Int, e = .returned (.int .i64 z) ∧ (z < 0 ∨ (0 ≤ z ∧ SmallN ns))) ∧ Below w.heap.size w w' := by
  unfold maxLen at hc2
  have HA := hidG hA
  have HTS := hidG hts
  clear hA hts
  by_cases hl : 1048576 < ns.length
  · have y : decide ((1048576 : Int) - (ns.length : Int) < 0) = true := by rw [decide_eq_true_iff]; omega
    go_enter Tryd.func12, Tryd.ntmps12
    go_wp2_with fail
    go_ret
    exact ⟨⟨-1, rfl, .inl (by decide)⟩, Below.refl _ _⟩
  · have y : decide ((1048576 : Int) - (ns.length : Int) < 0) = false := by rw [decide_eq_false_iff_not]; omega
    go_enter Tryd.func12, Tryd.ntmps12
    go_wp2_with fail
    go_loopw [1, 5] (fun zv iv wr => ∃ (i z : Nat), i ≤ ns.length ∧ z ≤ 1048576 ∧ zv = .int .i64 (z : Nat) ∧ iv = .int .i64 (i : Nat) ∧ (∀ j (h : j < ns.length), j < i → ns[j].1.text.size ≤ 1048576) ∧ Below w.heap.size w wr) (fun _ iv _ => ns.length - (intOf iv).toNat)
    case atStart => exact ⟨0, 1048576 - ns.length, Nat.zero_le _, by omega, by go_num, rfl, fun j _ h => absurd h (Nat.not_lt_zero _), Below.refl _ _⟩
    case round =>
      obtain ⟨i, z, hi, hz, rfl, rfl, hsm, hB⟩ := hrel
      have HSM := hidG hsm
      have HB := hidG hB
      clear hsm
      by_cases hlt : i < ns.length
      · obtain ⟨b, off, rfl, hb, hA⟩ : ∃ b off, a = some ⟨b, off, none⟩ ∧ b < w.heap.size ∧ ArgAt w b off ns := by
          rcases HA.out with h | h
          · rw [h] at hlt; exact absurd hlt (Nat.not_lt_zero _)
          · exact h
        obtain ⟨k0, k1, k2, k3⟩ := hA i hlt
        rw [← hB.cell (p := ⟨b, off + i * 4, none⟩) hb] at k0
        rw [← hB.cell (p := ⟨b, off + i * 4 + 1, none⟩) hb] at k1
        rw [← hB.cell (p := ⟨b, off + i * 4 + 2, none⟩) hb] at k2
        rw [← hB.cell (p := ⟨b, off + i * 4 + 3, none⟩) hb] at k3
        have htx := HTS.out i hlt
        obtain ⟨q, hq⟩ : ∃ q, ns[i].2 = q := ⟨_, rfl⟩
        obtain ⟨nd, hnd⟩ : ∃ nd, ns[i].1 = nd := ⟨_, rfl⟩
        have HND := hidG hnd
        rw [hnd] at k0 k1 k2 htx
        rw [hq] at k3
        have HTX := hidG htx
        clear hq hnd hB hA htx
        by_cases hzs : z < nd.text.size
        · have HZ : Hid ((if z < nd.text.size then (-1 : Int) else (z : Int) - nd.text.size) = -1) := if_pos hzs
          go_wp2_with (go_at_call 26; refine (szNode_any nd.kind q nd.kids nd.text z _ HTX.out hz).mono ?_; rintro e w2 ⟨rfl, hb2⟩; rw [HZ.out]; have HB2 : Hid (Below w.heap.size w w2) := HB.out.trans (hb2.mono HB.out.size); clear hb2)
          go_ret
          exact ⟨⟨-1, rfl, .inl (by decide)⟩, HB2.out⟩
        · have HZ : Hid ((if z < nd.text.size then (-1 : Int) else (z : Int) - nd.text.size) = ((z - nd.text.size : Nat) : Int)) := by unfold Hid; rw [if_neg hzs]; omega
          obtain ⟨z2, hz2⟩ : ∃ z2, z - nd.text.size = z2 := ⟨_, rfl⟩
          rw [hz2] at HZ
          have hz3 : z2 ≤ 1048576 := by omega
          have y2 : decide ((z2 : Int) < 0) = false := by rw [decide_eq_false_iff_not]; omega
          have HLE : Hid (nd.text.size ≤ 1048576) := by show nd.text.size ≤ 1048576; omega
          clear hz2 hzs
          go_wp2_with (go_at_call 26; refine (szNode_any nd.kind q nd.kids nd.text z _ HTX.out hz).mono ?_; rintro e w2 ⟨rfl, hb2⟩; rw [HZ.out]; have HB2 : Hid (Below w.heap.size w w2) := HB.out.trans (hb2.mono HB.out.size); clear hb2)
          go_roundw
          case rel =>
            refine ⟨i + 1, z2, by omega, hz3, by go_num, by go_num, fun j hj hji => ?_, HB2.out⟩
            by_cases e : j = i
            · subst e; rw [HND.out]; exact HLE.out
            · exact HSM.out j hj (by omega)
          case measure => simp [intOf]; omega
      · have hie : i = ns.length := by omega
        subst hie
        clear hB
        go_wp2_with fail
        go_ret
        exact ⟨⟨_, rfl, .inr ⟨by omega, by omega, fun j hj => HSM.out j hj hj⟩⟩, HB.out⟩
set_option maxRecDepth 100000 in
set_option maxHeartbeats 4000000 in
theorem eqNode_same (k q kd : Int) (s : ByteArray) (w : World) :
    Calls Tryd.prog 28 #[.agg #[.int .i64 k, .string s, .int .i64 kd, .int .i64 q], .agg #[.int .i64 k, .string s, .int .i64 kd, .int .i64 q]] w fun e w' => e = .returned (.bool true) ∧ Below w.heap.size w w' := by
  go_enter Tryd.func28, Tryd.ntmps28
  go_wp2_with fail
  go_ret
  exact ⟨rfl, (below_alloc w _).alloc (by simp) _⟩
set_option maxRecDepth 100000 in
set_option maxHeartbeats 4000000 in
theorem eqNodeS_none (p1 p2 : Option Addr) (c1 c2 : Nat) (w : World) :
    Calls Tryd.prog 14 #[.slice p1 0 c1, .slice p2 0 c2] w fun e w' => e = .returned (.bool true) ∧ Below w.heap.size w w' := by
  go_enter Tryd.func14, Tryd.ntmps14
  go_wp2_with fail
  go_loop [5] (fun i => i = .int .i64 0) (fun _ => 0)
  case atStart => rfl
  case round =>
    subst hrel
    go_wp2_with fail
    go_ret
    exact ⟨rfl, Below.refl _ _⟩
set_option maxRecDepth 100000 in
set_option maxHeartbeats 4000000 in
theorem eqNodeS_row (b1 c1 b2 c2 : Nat) (ns : List (Nd × Int)) (w : World) (hc1 : ns.length ≤ c1) (hm1 : c1 ≤ maxLen) (_hc2 : ns.length ≤ c2) (_hm2 : c2 ≤ maxLen) (hb1 : b1 < w.heap.size) (hb2 : b2 < w.heap.size) (hN1 : NodesAt w b1 ns) (hN2 : NodesAt w b2 ns) :
    Calls Tryd.prog 14 #[.slice (some ⟨b1, 0, none⟩) ns.length c1, .slice (some ⟨b2, 0, none⟩) ns.length c2] w fun e w' => e = .returned (.bool true) ∧ Below w.heap.size w w' := by
  unfold maxLen at hm1 _hm2
  have H1 := hidG hN1
  have H2 := hidG hN2
  clear hN1 hN2
  go_enter Tryd.func14, Tryd.ntmps14
  go_wp2_with fail
  go_loopw [5] (fun iv wr => ∃ i : Nat, i ≤ ns.length ∧ iv = .int .i64 (i : Nat) ∧ Below w.heap.size w wr) (fun iv _ => ns.length - (intOf iv).toNat)
  case atStart => exact ⟨0, Nat.zero_le _, rfl, Below.refl _ _⟩
  case round =>
    obtain ⟨i, hi, rfl, hB⟩ := hrel
    have HB := hidG hB
    by_cases hlt : i < ns.length
    · obtain ⟨⟨k0, k1, k2, k3⟩, _⟩ := H1.out i hlt
      obtain ⟨⟨m0, m1, m2, m3⟩, _⟩ := H2.out i hlt
      rw [← hB.cell (p := ⟨b1, i * 4, none⟩) hb1] at k0
      rw [← hB.cell (p := ⟨b1, i * 4 + 1, none⟩) hb1] at k1
      rw [← hB.cell (p := ⟨b1, i * 4 + 2, none⟩) hb1] at k2
      rw [← hB.cell (p := ⟨b1, i * 4 + 3, none⟩) hb1] at k3
      rw [← hB.cell (p := ⟨b2, i * 4, none⟩) hb2] at m0
      rw [← hB.cell (p := ⟨b2, i * 4 + 1, none⟩) hb2] at m1
      rw [← hB.cell (p := ⟨b2, i * 4 + 2, none⟩) hb2] at m2
      rw [← hB.cell (p := ⟨b2, i * 4 + 3, none⟩) hb2] at m3
      obtain ⟨q, hq⟩ : ∃ q, ns[i].2 = q := ⟨_, rfl⟩
      obtain ⟨nd, hnd⟩ : ∃ nd, ns[i].1 = nd := ⟨_, rfl⟩
      rw [hnd] at k0 k1 k2 m0 m1 m2
      rw [hq] at k3 m3
      clear hq hnd hB
      have hsz := HB.out.size
      have hhb1 := hb1
      have hhb2 := hb2
      go_wp2_with fail
      go_region_held3 (fun w' => w'.cell? ⟨b1, i * 4, none⟩ = some (.int .i64 nd.kind) ∧ w'.cell? ⟨b1, i * 4 + 1, none⟩ = some (.string nd.text) ∧ w'.cell? ⟨b1, i * 4 + 2, none⟩ = some (.int .i64 nd.kids) ∧ w'.cell? ⟨b1, i * 4 + 3, none⟩ = some (.int .i64 q) ∧ w'.cell? ⟨b2, i * 4, none⟩ = some (.int .i64 nd.kind) ∧ w'.cell? ⟨b2, i * 4 + 1, none⟩ = some (.string nd.text) ∧ w'.cell? ⟨b2, i * 4 + 2, none⟩ = some (.int .i64 nd.kids) ∧ w'.cell? ⟨b2, i * 4 + 3, none⟩ = some (.int .i64 q))
        (first
          | go_keep
          | (go_split_ands
             refine ⟨?_, ?_, ?_, ?_, ?_, ?_, ?_, ?_⟩
             · (rw [hbe.cell (p := ⟨b1, i * 4, none⟩) (Nat.lt_of_lt_of_le hhb1 hsz)]; assumption)
             · (rw [hbe.cell (p := ⟨b1, i * 4 + 1, none⟩) (Nat.lt_of_lt_of_le hhb1 hsz)]; assumption)
             · (rw [hbe.cell (p := ⟨b1, i * 4 + 2, none⟩) (Nat.lt_of_lt_of_le hhb1 hsz)]; assumption)
             · (rw [hbe.cell (p := ⟨b1, i * 4 + 3, none⟩) (Nat.lt_of_lt_of_le hhb1 hsz)]; assumption)
             · (rw [hbe.cell (p := ⟨b2, i * 4, none⟩) (Nat.lt_of_lt_of_le hhb2 hsz)]; assumption)
             · (rw [hbe.cell (p := ⟨b2, i * 4 + 1, none⟩) (Nat.lt_of_lt_of_le hhb2 hsz)]; assumption)
             · (rw [hbe.cell (p := ⟨b2, i * 4 + 2, none⟩) (Nat.lt_of_lt_of_le hhb2 hsz)]; assumption)
             · (rw [hbe.cell (p := ⟨b2, i * 4 + 3, none⟩) (Nat.lt_of_lt_of_le hhb2 hsz)]; assumption)))
        ((go_at_call 28; refine (eqNode_same nd.kind q nd.kids nd.text _).mono ?_; rintro e w2 ⟨rfl, hbe⟩))
      have HB2 : Hid (Below w.heap.size w w2) := (HB.out.drew).trans (hbe.mono hsz)
      clear hbe
      go_wp2_with fail
      go_roundw
      case rel => exact ⟨i + 1, by omega, by go_num, HB2.out⟩
      case measure => simp [intOf]; omega
    · clear hB
      go_wp2_with fail
      go_ret
      exact ⟨rfl, HB.out⟩
theorem eqNodeS_same (v1 v2 : Value) (ns : List (Nd × Int)) (w : World) (h1 : IsNodes w v1 ns) (h2 : IsNodes w v2 ns) :
    Calls Tryd.prog 14 #[v1, v2] w fun e w' => e = .returned (.bool true) ∧ Below w.heap.size w w' := by
  obtain ⟨p1, c1, rfl, hc1, hm1, h1⟩ := h1
  obtain ⟨p2, c2, rfl, hc2, hm2, h2⟩ := h2
  rcases h1 with rfl | ⟨b1, rfl, hb1, hN1⟩
  · exact eqNodeS_none p1 p2 c1 c2 w
  · rcases h2 with rfl | ⟨b2, rfl, hb2, hN2⟩
    · exact eqNodeS_none _ p2 c1 c2 w
    · exact eqNodeS_row b1 c1 b2 c2 ns w hc1 hm1 hc2 hm2 hb1 hb2 hN1 hN2
/-- The laws' argument. -/
def ArgNodes (w : World) (a : Option Addr) (c : Nat) (ns : List (Nd × Int)) : Prop :=
  ns.length ≤ c ∧ c ≤ maxLen ∧ (ns = [] ∨ ∃ b off, a = some ⟨b, off, none⟩ ∧ b < w.heap.size ∧ ArgAt w b off ns) ∧ (∀ i (h : i < ns.length), ns[i].1.text.size ≤ maxLen) ∧ ∀ i (h : i < ns.length), ns[i].1.kids ≤ 9223372036854775807
theorem ArgNodes.below {w w' : World} {a : Option Addr} {c : Nat} {ns : List (Nd × Int)} (h : ArgNodes w a c ns) (hb : Below w.heap.size w w') : ArgNodes w' a c ns := by
  obtain ⟨h1, h2, h3, h4, h5⟩ := h
  refine ⟨h1, h2, ?_, h4, h5⟩
  rcases h3 with h | ⟨b, off, rfl, hlt, hA⟩
  · exact .inl h
  · refine .inr ⟨b, off, rfl, Nat.lt_of_lt_of_le hlt hb.size, fun i hi => ?_⟩
    obtain ⟨k0, k1, k2, k3⟩ := hA i hi
    exact ⟨(hb.cell (p := ⟨b, off + i * 4, none⟩) hlt).trans k0, (hb.cell (p := ⟨b, off + i * 4 + 1, none⟩) hlt).trans k1, (hb.cell (p := ⟨b, off + i * 4 + 2, none⟩) hlt).trans k2, (hb.cell (p := ⟨b, off + i * 4 + 3, none⟩) hlt).trans k3⟩
theorem toNodeS_any (a : Option Addr) (c : Nat) (ns : List (Nd × Int)) (w : World) (h : ArgNodes w a c ns) (hs : SmallN ns) :
    Calls Tryd.prog 13 #[.slice a ns.length c] w fun e w' => ∃ v, e = .returned v ∧ IsNodes w' v ns ∧ Below w.heap.size w w' := by
  obtain ⟨h1, h2, h3, h4, h5⟩ := h
  rcases h3 with rfl | ⟨b, off, rfl, hlt, hA⟩
  · exact toNodeS_none a c w
  · exact toNodeS_some b off c ns w hs h1 h2 hlt hA h5
end Go.Proofs.YtnpapmkokngjpaaDoor
