import Derived.Test.YtdngpnlbhadbpaaDoorTrSt
namespace Go.Proofs.YtdngpnlbhadbpaaDoor
open Go.ChangeShapes Go.WideShapes Go.ChangeAt Go.RowKit
def resN (k : Int) (s : ByteArray) (n : Nat) : Ending := .returned (.tuple #[.agg #[.int .i64 k, .string s, .int .i64 0, .int .i64 0], .int .i64 (n : Nat)])
set_option maxRecDepth 100000 in
set_option maxHeartbeats 4000000 in
theorem bitsNode_0 (s : ByteArray) (w : World) :
    Calls Tryd.prog 66 #[.string s, .int .i64 0] w fun e w' => e = resN 0 ⟨#[]⟩ 0 ∧ Below w.heap.size w w' := by
  go_enter Tryd.func66, Tryd.ntmps66
  go_wp2_with fail
  refine bodyPost_ret (v := .tuple #[.agg #[.int .i64 0, .string ⟨#[]⟩, .int .i64 0, .int .i64 0], .int .i64 0]) ?_ rfl ⟨rfl, below_alloc _ _⟩
  simp [results, Tryd.results66, go_sem]
set_option maxRecDepth 100000 in
set_option maxHeartbeats 4000000 in
theorem bitsNode_1 (s : ByteArray) (r : Nat) (w : World) (h : 0 < r) (hr : r ≤ 50000) :
    Calls Tryd.prog 66 #[.string s, .int .i64 (r : Nat)] w fun e w' => e = resN 5 s (2 + r) ∧ Below w.heap.size w w' := by
  have y : (((r : Nat) : Int) == 0) = false := by rw [beq_eq_false_iff_ne]; omega
  go_enter Tryd.func66, Tryd.ntmps66
  go_wp2_with fail
  refine bodyPost_ret (v := .tuple #[.agg #[.int .i64 5, .string s, .int .i64 0, .int .i64 0], .int .i64 (2 + r : Nat)]) ?_ rfl ⟨rfl, below_alloc _ _⟩
  simp [results, Tryd.results66, go_sem]
set_option maxRecDepth 100000 in
set_option maxHeartbeats 4000000 in
theorem hexValue_x (c : UInt8) (w : World) :
    Calls Tryd.prog 74 #[.int .u8 (c.toNat : Int)] w fun e w' => (∃ v, e = .returned (.int .u8 v)) ∧ w' = w := by
  go_enter Tryd.func74, Tryd.ntmps74
  go_wp2
  all_goals go_ret
  all_goals exact ⟨⟨_, rfl⟩, rfl⟩
theorem u8_of {x : Int} (h : 0 ≤ x) (h' : x ≤ 255) : ∃ c : UInt8, Value.int .u8 x = .int .u8 (c.toNat : Int) := by
  refine ⟨x.toNat.toUInt8, ?_⟩
  congr 1
  simp
  omega
set_option maxRecDepth 100000 in
set_option maxHeartbeats 4000000 in
theorem binaryOf_x (s : ByteArray) (w : World) (hs : s.size ≤ 50000) :
    Calls Tryd.prog 68 #[.string s] w fun e w' => (∃ t, e = .returned (.string t)) ∧ Below w.heap.size w w' := by
  go_enter Tryd.func68, Tryd.ntmps68
  go_wp2_with fail
  go_loopw [4] (fun iv wr => ∃ (i : Nat) (acc : List UInt8), i ≤ s.size ∧ acc.length ≤ 4 * i ∧ iv = .int .i64 (i : Nat) ∧ Lib.IsBuilder 67 5 w.heap.size w.heap.size (Lib.byteCells acc) wr ∧ Below w.heap.size w wr) (fun iv _ => s.size + 1 - (intOf iv).toNat)
  case atStart => exact ⟨0, [], by omega, by simp, rfl, builder_new w rfl, below_alloc _ _⟩
  case round =>
    obtain ⟨i, acc, hi, hal, rfl, hbd, hbe⟩ := hrel
    have HBD := hidG hbd
    have HBE := hidG hbe
    have hsz := hbe.size
    clear hbd hbe
    by_cases hl : i < s.size
    · go_wp2_with (go_at_call 74; refine (hexValue_x s[i] _).mono ?_; rintro e w' ⟨⟨v, rfl⟩, rfl⟩)
      go_loopw [6] (fun pv wq => ∃ (p : Int) (acc : List UInt8), -1 ≤ p ∧ p ≤ 3 ∧ (acc.length : Int) ≤ 4 * i + (3 - p) ∧ pv = .int .i64 p ∧ Lib.IsBuilder 67 5 w.heap.size w.heap.size (Lib.byteCells acc) wq ∧ Below w.heap.size w wq) (fun pv _ => (intOf pv + 1).toNat)
      case atStart => exact ⟨3, acc, by omega, by omega, by omega, rfl, HBD.out, HBE.out⟩
      case round =>
        obtain ⟨p, acc2, hp1, hp, hal2, rfl, hbd2, hbe2⟩ := hrel
        have HBD2 := hidG hbd2
        have HBE2 := hidG hbe2
        have hsz2 := hbe2.size
        clear hbd2 hbe2
        by_cases hp0 : 0 ≤ p
        · obtain ⟨x, hx⟩ : ∃ x, IntKind.u8.wrap (48 + bits .and .u8 (v / 2 ^ p.toNat) 1) = x := ⟨_, rfl⟩
          have hx0 := (wrap_within .u8 (48 + bits .and .u8 (v / 2 ^ p.toNat) 1))
          rw [hx] at hx0
          obtain ⟨c, hc⟩ := u8_of (x := x) hx0.1 hx0.2
          have HC := hidG hc
          clear hx0 hc
          go_wp2_with (go_at_call 41; refine (writeByte_any w.heap.size w.heap.size (Lib.byteCells acc2) x _ HBD2.out (by rw [Lib.byteCells_length]; omega) hsz2).mono ?_; rintro e w1 ⟨rfl, hb1, hbe1⟩; have HB1 := hidG hb1; have HBE1 := hidG hbe1; clear hb1 hbe1)
          go_roundw
          case rel => exact ⟨p - 1, acc2 ++ [c], by omega, by omega, by simp; omega, by go_num, .inr (by have := HB1.out; rw [HC.out] at this; rw [Lib.byteCells_append]; exact this), HBE2.out.trans HBE1.out⟩
          case measure => simp [intOf]; omega
        · have hpe : p = -1 := by omega
          subst hpe
          go_wp2_with fail
          go_roundw
          case rel => exact ⟨i + 1, acc2, by omega, by omega, by go_num, HBD2.out, HBE2.out⟩
          case measure => simp [intOf]; omega
    · go_wp2_with (go_at_call 42; refine (builderString_any w.heap.size w.heap.size acc _ HBD.out hsz).mono ?_; rintro e w1 ⟨rfl, hbe1⟩; have HBE1 := hidG hbe1; clear hbe1)
      go_ret
      exact ⟨⟨_, rfl⟩, HBE.out.trans HBE1.out⟩
/-- What a token of bits comes to. -/
def BitsP (s : ByteArray) (r : Nat) (k : Int) (t : ByteArray) (n : Nat) : Prop := (r = 0 ∧ k = 0 ∧ t = ⟨#[]⟩ ∧ n = 0) ∨ (0 < r ∧ k = 5 ∧ t = s ∧ n = 2 + r)
theorem bitsNode_x (s : ByteArray) (r : Nat) (w : World) (hr : r ≤ 50000) :
    Calls Tryd.prog 66 #[.string s, .int .i64 (r : Nat)] w fun e w' => (∃ k t n, BitsP s r k t n ∧ e = resN k t n) ∧ Below w.heap.size w w' := by
  by_cases h : 0 < r
  · refine (bitsNode_1 s r w h hr).mono ?_
    rintro e w' ⟨rfl, hb⟩
    exact ⟨⟨_, _, _, .inr ⟨h, rfl, rfl, rfl⟩, rfl⟩, hb⟩
  · have h0 : r = 0 := by omega
    subst h0
    refine (bitsNode_0 s w).mono ?_
    rintro e w' ⟨rfl, hb⟩
    exact ⟨⟨_, _, _, .inl ⟨rfl, rfl, rfl, rfl⟩, rfl⟩, hb⟩
set_option maxRecDepth 100000 in
set_option maxHeartbeats 4000000 in
theorem scanBits_b (T U : ByteArray) (r : Nat) (w : World) (hs : T.size ≤ 50000) (hU : T.extract 2 (U.size + 2) = U) (hr : runL bitB U.data.toList = r) (hrl : r ≤ U.size) (hTU : T.size = U.size + 2) (hc : T[1]'(by omega) = 98) :
    Calls Tryd.prog 50 #[.string T] w fun e w' => (∃ k t n, BitsP (U.extract 0 r) r k t n ∧ e = resN k t n) ∧ Below w.heap.size w w' := by
  have HU := hidG hU
  have HR := hidG hr
  have y1 : (((T[1]'(by omega)).toNat : Int) == 98) = true := by rw [hc]; rfl
  have hsz : (U.extract 0 r).size ≤ 281474976710656 := by rw [ByteArray.size_extract]; omega
  have hvs : (U.extract 0 r).size = r := by rw [ByteArray.size_extract]; omega
  obtain ⟨V, hV⟩ : ∃ V, U.extract 0 r = V := ⟨_, rfl⟩
  have HV := hidG hV
  rw [hV] at hsz hvs ⊢
  clear hV hU hr hc
  go_enter Tryd.func50, Tryd.ntmps50
  go_wp2_with (first | (go_at_call 48; rw [HU.out]; refine (runOf_bit _ _ (by unfold maxLen; omega)).mono ?_; rintro e w' ⟨rfl, rfl⟩; rw [HR.out]) | (go_at_call 64; rw [HV.out]; refine (clone_any _ _ hsz).mono ?_; rintro e w1 ⟨rfl, hb1⟩; have hx := (bx_new w [.int .i64 0, .string ⟨#[]⟩, .int .i64 0, .int .i64 0] 31).below (N := w.heap.size + 1) (by omega) (hb1.mono (by simp)); have HX1 := hidG hx; have HB1 : Hid (Below w.heap.size w w1) := (below_alloc _ _).trans (hb1.mono (by simp)); have hs1 : w.heap.size + 1 ≤ w1.heap.size := (by have := hb1.size; simpa using this); clear hb1 hx) | (go_at_call 66; refine (bitsNode_x V r _ (by omega)).mono ?_; rintro e w2 ⟨⟨k2, s2, n2, hk2, he⟩, hb2⟩; unfold resN at he; subst he; have HK2 := hidG hk2; clear hk2; have hx2 := HX1.out.below (N := w.heap.size + 1) (by omega) (hb2.mono hs1); have HX2 := hidG hx2; have HB2 : Hid (Below w.heap.size w w2) := HB1.out.trans (hb2.mono (by omega)); obtain ⟨c0, c1, c2, c3⟩ := hx2.c4; have f0 := hx2.frozen 0; have f1 := hx2.frozen 1; have f2 := hx2.frozen 2; have f3 := hx2.frozen 3; clear hb2 hx2) | go_in)
  have hx4 := ((((HX2.out.set 0 (.int .i64 k2)).set 1 (.string s2)).set 2 (.int .i64 0)).set 3 (.int .i64 0))
  obtain ⟨e0, e1, e2, e3⟩ := hx4.c4
  refine bodyPost_ret (v := .tuple #[.agg #[.int .i64 k2, .string s2, .int .i64 0, .int .i64 0], .int .i64 (n2 : Nat)]) ?_ rfl ⟨⟨k2, s2, n2, HK2.out, rfl⟩, ?_⟩
  · clear c0 c1 c2 c3 f0 f1 f2 f3
    simp [results, Tryd.results50, go_sem, e0, e1, e2, e3]
  · exact (((HB2.out.setCell (p := ⟨w.heap.size, 0, none⟩) (Nat.le_refl _) _).setCell (p := ⟨w.heap.size, 1, none⟩) (Nat.le_refl _) _).setCell (p := ⟨w.heap.size, 2, none⟩) (Nat.le_refl _) _).setCell (p := ⟨w.heap.size, 3, none⟩) (Nat.le_refl _) _
set_option maxRecDepth 100000 in
set_option maxHeartbeats 4000000 in
theorem scanBits_x (T U : ByteArray) (r : Nat) (w : World) (hs : T.size ≤ 50000) (hU : T.extract 2 (U.size + 2) = U) (hr : runL hexB U.data.toList = r) (hrl : r ≤ U.size) (hTU : T.size = U.size + 2) (hc : T[1]'(by omega) = 120) :
    Calls Tryd.prog 50 #[.string T] w fun e w' => (∃ k t n, (k = 0 ∨ k = 5) ∧ e = resN k t n) ∧ Below w.heap.size w w' := by
  have HU := hidG hU
  have HR := hidG hr
  have y0 : (((T[1]'(by omega)).toNat : Int) == 98) = false := by rw [hc]; rfl
  have y1 : (((T[1]'(by omega)).toNat : Int) == 120) = true := by rw [hc]; rfl
  have hsz : (U.extract 0 r).size ≤ 50000 := by rw [ByteArray.size_extract]; omega
  have hvs : (U.extract 0 r).size = r := by rw [ByteArray.size_extract]; omega
  obtain ⟨V, hV⟩ : ∃ V, U.extract 0 r = V := ⟨_, rfl⟩
  have HV := hidG hV
  rw [hV] at hsz hvs
  clear hV hU hr hc
  go_enter Tryd.func50, Tryd.ntmps50
  go_wp2_with (first | (go_at_call 48; rw [HU.out]; refine (runOf_hex _ _ (by unfold maxLen; omega)).mono ?_; rintro e w' ⟨rfl, rfl⟩; rw [HR.out]) | (go_at_call 68; rw [HV.out]; refine (binaryOf_x _ _ hsz).mono ?_; rintro e w1 ⟨⟨tt, rfl⟩, hb1⟩; have hx := (bx_new w [.int .i64 0, .string ⟨#[]⟩, .int .i64 0, .int .i64 0] 31).below (N := w.heap.size + 1) (by omega) (hb1.mono (by simp)); have HX1 := hidG hx; have HB1 : Hid (Below w.heap.size w w1) := (below_alloc _ _).trans (hb1.mono (by simp)); have hs1 : w.heap.size + 1 ≤ w1.heap.size := (by have := hb1.size; simpa using this); clear hb1 hx) | (go_at_call 66; refine (bitsNode_x _ r _ (by omega)).mono ?_; rintro e w2 ⟨⟨k2, s2, n2, hk2, he⟩, hb2⟩; unfold resN at he; subst he; have HK2 := hidG hk2; clear hk2; have hx2 := HX1.out.below (N := w.heap.size + 1) (by omega) (hb2.mono hs1); have HX2 := hidG hx2; have HB2 : Hid (Below w.heap.size w w2) := HB1.out.trans (hb2.mono (by omega)); obtain ⟨c0, c1, c2, c3⟩ := hx2.c4; have f0 := hx2.frozen 0; have f1 := hx2.frozen 1; have f2 := hx2.frozen 2; have f3 := hx2.frozen 3; clear hb2 hx2))
  have hx4 := ((((HX2.out.set 0 (.int .i64 k2)).set 1 (.string s2)).set 2 (.int .i64 0)).set 3 (.int .i64 0))
  obtain ⟨e0, e1, e2, e3⟩ := hx4.c4
  refine bodyPost_ret (v := .tuple #[.agg #[.int .i64 k2, .string s2, .int .i64 0, .int .i64 0], .int .i64 (n2 : Nat)]) ?_ rfl ⟨⟨k2, s2, n2, by rcases HK2.out with ⟨_, h, _⟩ | ⟨_, h, _⟩ <;> simp [h], rfl⟩, ?_⟩
  · clear c0 c1 c2 c3 f0 f1 f2 f3
    simp [results, Tryd.results50, go_sem, e0, e1, e2, e3]
  · exact (((HB2.out.setCell (p := ⟨w.heap.size, 0, none⟩) (Nat.le_refl _) _).setCell (p := ⟨w.heap.size, 1, none⟩) (Nat.le_refl _) _).setCell (p := ⟨w.heap.size, 2, none⟩) (Nat.le_refl _) _).setCell (p := ⟨w.heap.size, 3, none⟩) (Nat.le_refl _) _
set_option maxRecDepth 100000 in
set_option maxHeartbeats 4000000 in
theorem scanBits_short (T : ByteArray) (w : World) (hs : T.size < 2) :
    Calls Tryd.prog 50 #[.string T] w fun e w' => e = resN 0 ⟨#[]⟩ 0 ∧ Below w.heap.size w w' := by
  have y : decide ((T.size : Int) < 2) = true := by rw [decide_eq_true_iff]; omega
  go_enter Tryd.func50, Tryd.ntmps50
  go_wp2_with fail
  refine bodyPost_ret (v := .tuple #[.agg #[.int .i64 0, .string ⟨#[]⟩, .int .i64 0, .int .i64 0], .int .i64 0]) ?_ rfl ⟨rfl, below_alloc _ _⟩
  simp [results, Tryd.results50, go_sem]
set_option maxRecDepth 100000 in
set_option maxHeartbeats 4000000 in
theorem scanBits_other (T : ByteArray) (w : World) (hs : 2 ≤ T.size) (hs2 : T.size ≤ 50000) (h1 : (T[1]'(by omega)).toNat ≠ 98) (h2 : (T[1]'(by omega)).toNat ≠ 120) :
    Calls Tryd.prog 50 #[.string T] w fun e w' => e = resN 0 ⟨#[]⟩ 0 ∧ Below w.heap.size w w' := by
  have y0 : (((T[1]'(by omega)).toNat : Int) == 98) = false := by rw [beq_eq_false_iff_ne]; omega
  have y1 : (((T[1]'(by omega)).toNat : Int) == 120) = false := by rw [beq_eq_false_iff_ne]; omega
  go_enter Tryd.func50, Tryd.ntmps50
  go_wp2_with fail
  refine bodyPost_ret (v := .tuple #[.agg #[.int .i64 0, .string ⟨#[]⟩, .int .i64 0, .int .i64 0], .int .i64 0]) ?_ rfl ⟨rfl, below_alloc _ _⟩
  simp [results, Tryd.results50, go_sem]
end Go.Proofs.YtdngpnlbhadbpaaDoor
