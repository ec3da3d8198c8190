import Derived.Test.YtdngpnlbhadbpaaDoorTkG
namespace Go.Proofs.YtdngpnlbhadbpaaDoor
open Go.ChangeShapes Go.WideShapes Go.ChangeAt Go.RowKit
def hexBit (v p : Nat) : UInt8 := (48 + v / 2 ^ p % 2).toUInt8
def hex4 (v : Nat) : List UInt8 := [hexBit v 3, hexBit v 2, hexBit v 1, hexBit v 0]
def hexL (l : List UInt8) : List UInt8 := l.flatMap (fun c => hex4 (hexN c))
theorem hexL_len (l : List UInt8) : (hexL l).length = 4 * l.length := by
  induction l with
  | nil => rfl
  | cons a r ih => show (hex4 (hexN a) ++ hexL r).length = _; rw [List.length_append, ih]; simp [hex4]; omega
theorem hexL_snoc (l : List UInt8) (c : UInt8) : hexL (l ++ [c]) = hexL l ++ hex4 (hexN c) := by simp [hexL]
theorem hexBit_eq : ∀ v : Nat, v < 16 → ∀ q : Nat, q < 4 → IntKind.u8.wrap (48 + bits .and .u8 ((v : Int) / 2 ^ (3 - (q : Int)).toNat) 1) = ((hexBit v (3 - q)).toNat : Int) := by decide
theorem hex4_take {v : Nat} : ∀ q, q < 4 → (hex4 v).take (q + 1) = (hex4 v).take q ++ [hexBit v (3 - q)]
  | 0, _ => rfl
  | 1, _ => rfl
  | 2, _ => rfl
  | 3, _ => rfl
  | n + 4, h => by omega
set_option maxRecDepth 100000 in
set_option maxHeartbeats 4000000 in
theorem binaryOf_ex (s : ByteArray) (w : World) (hs : s.size ≤ 50000) (hh : s.data.toList.all hexB = true) :
    Calls Tryd.prog 68 #[.string s] w fun e w' => e = .returned (.string (strOf (hexL s.data.toList))) ∧ Below w.heap.size w w' := by
  have HH : Hid (∀ i (h : i < s.size), hexB s[i] = true) := fun i h => by
    rw [List.all_eq_true] at hh
    exact hh _ (by rw [show s[i] = s.data.toList[i]'(by rw [← Lib.size_eq]; exact h) from rfl]; exact List.getElem_mem _)
  clear hh
  go_enter Tryd.func68, Tryd.ntmps68
  go_wp2_with fail
  go_loopw [4] (fun iv wr => ∃ (i : Nat) (acc : List UInt8), i ≤ s.size ∧ acc.length ≤ 4 * i ∧ iv = .int .i64 (i : Nat) ∧ acc = hexL (s.data.toList.take i) ∧ Lib.IsBuilder 67 5 w.heap.size w.heap.size (Lib.byteCells acc) wr ∧ Below w.heap.size w wr) (fun iv _ => s.size + 1 - (intOf iv).toNat)
  case atStart => exact ⟨0, [], by omega, by simp, rfl, rfl, builder_new w rfl, below_alloc _ _⟩
  case round =>
    obtain ⟨i, acc, hi, hal, rfl, hacc, hbd, hbe⟩ := hrel
    have HA := hidG hacc
    have HBD := hidG hbd
    have HBE := hidG hbe
    have hsz := hbe.size
    clear hbd hbe hacc
    by_cases hl : i < s.size
    · have hx := HH.out i hl
      have hlt := hexN_lt hx
      have HV := hidG hlt
      have HN : Hid (acc ++ hex4 (hexN s[i]) = hexL (s.data.toList.take (i + 1))) := by
        unfold Hid; rw [take_snoc s i hl, hexL_snoc, ← HA.out]
      have HC := hidG hx
      obtain ⟨v, hv⟩ : ∃ v, hexN s[i] = v := ⟨_, rfl⟩
      rw [hv] at HN HV
      obtain ⟨V, hV⟩ : ∃ V : Int, (v : Int) = V := ⟨_, rfl⟩
      have HVV : Hid (((hexN s[i] : Nat) : Int) = V) := by unfold Hid; rw [hv]; exact hV
      have HVI := hidG hV
      clear hx hlt hv hV
      go_wp2_with (go_at_call 74; refine (hexValue_ex s[i] _ HC.out).mono ?_; rintro e w' ⟨rfl, rfl⟩; rw [HVV.out])
      go_loopw [6] (fun pv wq => ∃ (q : Nat) (p : Int) (acc2 : List UInt8), q ≤ 4 ∧ acc2.length ≤ 4 * i + q ∧ -1 ≤ p ∧ p ≤ 3 ∧ p = 3 - (q : Int) ∧ pv = .int .i64 p ∧ acc2 = acc ++ (hex4 v).take q ∧ Lib.IsBuilder 67 5 w.heap.size w.heap.size (Lib.byteCells acc2) wq ∧ Below w.heap.size w wq) (fun pv _ => (intOf pv + 1).toNat)
      case atStart => exact ⟨0, 3, acc, by omega, by omega, by omega, by omega, rfl, rfl, by simp, HBD.out, HBE.out⟩
      case round =>
        obtain ⟨q, p, acc2, hq, hal2, hp1, hp3, hpq, rfl, hacc2, hbd2, hbe2⟩ := hrel
        have HP := hidG hpq
        have HA2 := hidG hacc2
        have HBD2 := hidG hbd2
        have HBE2 := hidG hbe2
        have hsz2 := hbe2.size
        clear hbd2 hbe2 hacc2
        by_cases hp0 : 0 ≤ p
        · have HS : Hid (acc2 ++ [hexBit v (3 - q)] = acc ++ (hex4 v).take (q + 1)) := by
            unfold Hid; rw [hex4_take q (by omega), HA2.out, List.append_assoc]
          obtain ⟨x, hx⟩ : ∃ x, IntKind.u8.wrap (48 + bits .and .u8 (V / 2 ^ p.toNat) 1) = x := ⟨_, rfl⟩
          have HX : Hid (x = ((hexBit v (3 - q)).toNat : Int)) := by
            unfold Hid; rw [← hx, HP.out, ← HVI.out]; exact hexBit_eq v HV.out q (by omega)
          have hal3 : acc2.length ≤ 200004 := by omega
          have HQ : Hid (q + 1 ≤ 4 ∧ acc2.length + 1 ≤ 4 * i + (q + 1) ∧ p - 1 = 3 - ((q + 1 : Nat) : Int)) := ⟨by omega, by omega, by omega⟩
          clear hpq hal2 hq hal
          go_wp2_with (go_at_call 41; refine (writeByte_any w.heap.size w.heap.size (Lib.byteCells acc2) x _ HBD2.out (by rw [Lib.byteCells_length]; omega) hsz2).mono ?_; rintro e w1 ⟨rfl, hb1, hbe1⟩; have HB1 := hidG hb1; have HBE1 := hidG hbe1; clear hb1 hbe1)
          go_roundw
          case rel => exact ⟨q + 1, p - 1, acc2 ++ [hexBit v (3 - q)], HQ.out.1, by have := HQ.out.2.1; simp; omega, by omega, by omega, HQ.out.2.2, by go_num, HS.out, .inr (by have := HB1.out; rw [HX.out] at this; rw [Lib.byteCells_append]; exact this), HBE2.out.trans HBE1.out⟩
          case measure => simp [intOf]; omega
        · have hpe : q = 4 := by omega
          subst hpe
          have hpe : p = -1 := by omega
          subst hpe
          have hal4 : acc2.length ≤ 4 * (i + 1) := by omega
          clear hpq HP
          have HS : Hid (acc2 = hexL (s.data.toList.take (i + 1))) := by unfold Hid; rw [← HN.out, HA2.out]; rfl
          go_wp2_with fail
          go_roundw
          case rel => exact ⟨i + 1, acc2, by omega, hal4, by go_num, HS.out, HBD2.out, HBE2.out⟩
          case measure => simp [intOf]; omega
    · have HS : Hid (acc = hexL s.data.toList) := by
        unfold Hid; rw [HA.out, List.take_of_length_le (by rw [← Lib.size_eq]; omega)]
      go_wp2_with (go_at_call 42; refine (builderString_any w.heap.size w.heap.size acc _ HBD.out hsz).mono ?_; rintro e w1 ⟨rfl, hbe1⟩; have HBE1 := hidG hbe1; clear hbe1)
      go_ret
      exact ⟨by rw [← HS.out]; rfl, HBE.out.trans HBE1.out⟩
end Go.Proofs.YtdngpnlbhadbpaaDoor
